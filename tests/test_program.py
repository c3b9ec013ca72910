"""Promises 1 to 3 over the whole program, and its interface."""

import ast
import contextlib
import inspect
import io
import itertools
import pathlib
import random
import sys
import unittest

from stackeffects import effects
from stackeffects.effects import form, has, judge, then, weight, word
from tests.helper import (BUILT_IN_WORDS, FAULTS, CallCase, Plain, Quick, Tree, as_bytes, first_wrong, in_order, name,
                          nested, tokens, weighed)

ONE_TEXT = [judge, form, weight]
TWO_TEXTS = [has, then]


def told(text):
    return [0, len(text)] + as_bytes(text)


def effect_of(one):
    """The bytes of a built-in word's effect, as the program tells it."""
    return word(as_bytes(one))[2:]


class Interface(unittest.TestCase):
    PARAMETERS = {"judge": ["t"], "form": ["t"], "weight": ["t"], "has": ["t", "u"], "then": ["t", "u"], "word": ["w"]}

    def test_names_and_arguments(self):
        for one, parameters in self.PARAMETERS.items():
            signature = inspect.signature(getattr(effects, one))
            self.assertEqual(list(signature.parameters), parameters)
            self.assertTrue(all(given.default is given.empty for given in signature.parameters.values()))

    def test_arguments_by_name(self):
        dup, drop = as_bytes("A a -- A a a"), as_bytes("A a -- A")
        self.assertEqual([judge(t=dup), weight(t=dup), has(t=dup, u=drop)], [[0], [5], [0]])
        self.assertEqual([form(t=dup), then(u=drop, t=dup), word(w=as_bytes("dup"))],
                         [told("A a -- A a a"), told("A a -- A a"), told("A a -- A a a")])

    def test_nothing_is_imported_printed_or_read(self):
        for path in pathlib.Path(effects.__file__).parent.glob("*.py"):
            for node in ast.walk(ast.parse(path.read_text("ascii"))):
                self.assertNotIsInstance(node, (ast.Import, ast.ImportFrom), path.name)
        known = set(sys.modules)
        out, given = io.StringIO(), io.StringIO("A -- A")
        before, sys.stdin = sys.stdin, given
        try:
            with contextlib.redirect_stdout(out), contextlib.redirect_stderr(out):
                for call, texts, expected in CALLS:
                    call(*[as_bytes(text) for text in texts])
        finally:
            sys.stdin = before
        self.assertEqual([out.getvalue(), given.tell(), set(sys.modules)], ["", 0, known])


class BuiltInWords(unittest.TestCase):
    def test_each_effect_by_itself(self):
        for one, effect in BUILT_IN_WORDS.items():
            text = effect_of(one)
            self.assertEqual(judge(text), [0])
            self.assertEqual(form(text), told(effect))
            self.assertEqual(weight(text), [weighed(effect)])
            self.assertEqual(has(text, text), [1])
            self.assertEqual(then(text, as_bytes("A -- A")), told(effect))
            self.assertEqual(then(as_bytes("A -- A"), text), told(effect))

    def test_two_effects_of_which_each_has_the_other_are_the_same(self):
        for one, other in itertools.product(BUILT_IN_WORDS, repeat=2):
            both = [has(effect_of(one), effect_of(other)), has(effect_of(other), effect_of(one))] == [[1], [1]]
            self.assertEqual(both, BUILT_IN_WORDS[one] == BUILT_IN_WORDS[other])

    def test_three_words_either_way(self):
        chosen = random.Random(12)
        words = list(BUILT_IN_WORDS)
        found = {0: 0, 1: 0, -5: 0}
        for _ in range(3000):
            first, second, third = [effect_of(chosen.choice(words)) for _ in range(3)]
            left, right = then(first, second), then(second, third)
            left = then(left[2:], third) if left[0] == 0 else left
            right = then(first, right[2:]) if right[0] == 0 else right
            self.assertEqual(left, right, [bytes(first), bytes(second), bytes(third)])
            found[left[0]] += 1
        self.assertGreater(min(found[0], found[1]), 500)

    def test_a_program_of_many_words(self):
        for words, expected in [
                ("dup * swap dup * +", "A num num -- A num"),
                ("over over < unit swap drop", "A num num -- A num [B -- B bool]"),
                ("nil cons cons", "A a a -- A list(a)"),
                ("unit compose apply", "A [A -- B] a -- B a"),
                ("swap unit compose apply", "A a [A -- B] -- B a"),
                ("pair unpair swap pair", "A a b -- A pair(b,a)"),
                ("dup mod not", None), ("nil apply", None), ("dup apply", None), ("nil + not", None)]:
            for splits in [1, -1]:
                self.assertEqual(self.joined(words.split(), splits), expected, words)

    def joined(self, words, order):
        """What comes of all words, joined from the left or from the right; None if nothing does."""
        parts = [effect_of(one) for one in words][::order]
        text = parts[0]
        for part in parts[1:]:
            answer = then(*[text, part][::order])
            if answer == [1]:
                return None
            self.assertEqual(answer[:2], [0, len(answer) - 2])
            text = answer[2:]
        return bytes(text).decode("ascii")


class Promises(unittest.TestCase):
    def test_a_text_is_one_effects_or_its_fault_is_told(self):
        kinds = ["A", "a", "num", "list", "pair", "(", ")", "[", "]", ",", "--"]
        chosen = random.Random(1)
        good = 0
        for _ in range(4000):
            tree = Tree(chosen.randrange(10 ** 6))
            tree.rows, tree.items = ["A", "B"], ["a", "b"]
            parts = tokens(Plain().effect(tree.effect(2)))
            for _ in range(chosen.randrange(3)):
                parts[chosen.randrange(len(parts))] = chosen.choice(kinds)
            wrong = first_wrong(parts)
            text = as_bytes(" ".join(parts))
            if len(text) > 1024:
                continue
            place = len(" ".join(parts[:wrong] + [""])) if wrong is not None and wrong < len(parts) else len(text)
            expected = [0] if wrong is None else [-1, 1, place]
            self.assertEqual(judge(text), expected, bytes(text))
            good += wrong is None
            if wrong is not None:
                self.every_refusal_is(text, place)
        self.assertGreater(good, 1000)
        self.assertLess(good, 3000)

    def every_refusal_is(self, text, place):
        dup = as_bytes("A a -- A a a")
        self.assertEqual([call(text) for call in ONE_TEXT], [[-1, 1, place]] * 3)
        self.assertEqual([call(text, dup) for call in TWO_TEXTS], [[-1, 1, place]] * 2)
        self.assertEqual([call(dup, text) for call in TWO_TEXTS], [[-1, 2, place]] * 2)

    def test_a_form_is_read_again_as_the_same_effect(self):
        taken = 0
        for start in range(400):
            text = Plain().effect(Tree(start).effect(5))
            if len(text) > 1024 or weighed(text) > 120:
                continue
            taken += 1
            once = form(as_bytes(text))
            self.assertEqual(once, told(in_order(text)))
            self.assertEqual(form(once[2:]), once)
            self.assertEqual(judge(once[2:]), [0])
            self.assertEqual(weight(once[2:]), weight(as_bytes(text)))
            self.assertEqual([has(once[2:], as_bytes(text)), has(as_bytes(text), once[2:])], [[1], [1]])
        self.assertGreater(taken, 300)

    def test_what_comes_of_two_is_a_form(self):
        for one, other in itertools.product(BUILT_IN_WORDS, repeat=2):
            answer = then(effect_of(one), effect_of(other))
            if answer[0] == 0:
                self.assertEqual(form(answer[2:]), answer)


class Refusals(unittest.TestCase):
    GOOD = "A a -- A"
    BAD = "A -- a"
    LONG = "A -- A".ljust(1025)
    HEAVY = "A" + " num" * 119 + " -- A"

    def check(self, call, texts, expected):
        self.assertEqual(call(*[as_bytes(text) for text in texts]), expected, [call.__name__, texts])

    def test_of_one_text(self):
        for call in ONE_TEXT:
            self.check(call, [self.LONG], [-6])
            self.check(call, [self.BAD.ljust(1025)], [-6])
            self.check(call, [self.HEAVY.ljust(1025)], [-6])
            self.check(call, [self.BAD], [-1, 1, 5])
            self.check(call, [self.HEAVY + " )"], [-1, 1, len(self.HEAVY) + 1])
            for text, place in FAULTS:
                self.check(call, [text], [-1, 1, place])
        self.check(judge, [self.HEAVY], [0])
        self.check(form, [self.HEAVY], [-5])
        self.check(weight, [self.HEAVY], [121])

    def test_of_two_texts(self):
        kinds = [self.LONG, self.BAD, self.GOOD, self.HEAVY]
        for call, t, u in itertools.product(TWO_TEXTS, kinds, kinds):
            if self.LONG in [t, u]:
                self.check(call, [t, u], [-6])
            elif t == self.BAD:
                self.check(call, [t, u], [-1, 1, 5])
            elif u == self.BAD:
                self.check(call, [t, u], [-1, 2, 5])
        self.check(has, [self.HEAVY, self.HEAVY], [1])
        self.check(has, [self.GOOD, self.HEAVY], [0])
        self.check(has, [self.HEAVY, self.GOOD], [0])
        self.check(then, [self.HEAVY, self.HEAVY], [-5])
        self.check(then, [self.GOOD, self.HEAVY], [-5])
        self.check(then, [self.HEAVY, "A bool -- A"], [-5])
        self.check(then, ["A -- A num", "A bool -- A"], [1])

    def test_of_word(self):
        for text in ["", "x", self.GOOD, self.BAD, self.LONG, self.HEAVY, "\xff" * 2000, "dup".ljust(1025)]:
            self.check(word, [text], [-2])

    def test_texts_of_all_lengths_that_are_asked(self):
        for length in [0, 1, 2, 1023, 1024, 1025, 1999, 2000]:
            for byte in [0, 10, 32, 45, 65, 91, 97, 128, 255]:
                text = [byte] * length
                refusal = [-6] if length > 1024 else judge(text)
                self.assertEqual(refusal[0], -6 if length > 1024 else -1)
                self.assertEqual([call(text) for call in ONE_TEXT], [refusal] * 3)
                self.assertEqual([call(text, text) for call in TWO_TEXTS], [refusal] * 2)
                self.assertEqual(word(text)[0], 0 if text == [45] else -2)


# Each function with texts, and what it answers.
CALLS = [
    (judge, ["A a -- A a"], [0]),
    (form, ["C [B b -- C] -- A"], told("A [B a -- A] -- C")),
    (weight, ["A pair(a,[A -- B]) -- A"], [7]),
    (has, ["A a -- A a", "A num -- A num"], [1]),
    (then, ["B b -- B b b", "A pair(a,b) -- A a"], told("A pair(a,b) -- A pair(a,b) a")),
    (word, ["case"], told("A list(a) [A -- B] [A a list(a) -- B] -- B")),
    (judge, ["A a -- a"], [-1, 1, 7]),
    (form, ["A -- A" + " a" * 119], [-5]),
    (weight, ["A"], [-1, 1, 1]),
    (has, ["A num -- A num", "A a -- A a"], [0]),
    (then, ["A a -- A a a", "A [A -- B] -- B"], [1]),
    (word, ["CASE"], [-2]),
    (has, ["A -- A", "?"], [-1, 2, 0]),
    (then, ["A -- A", "x" * 1025], [-6]),
]


class AnyOrder(CallCase):
    def test_each_call_is_by_itself(self):
        for first, second in itertools.product(CALLS, repeat=2):
            for call, texts, expected in [first, second, first]:
                self.call = call
                self.answers_all(texts, expected)

    def test_all_six_in_any_order(self):
        for some in itertools.permutations(CALLS[:6]):
            for call, texts, expected in some:
                self.assertEqual(call(*[as_bytes(text) for text in texts]), expected)

    def test_all_six_over_the_same_lists(self):
        first, second = as_bytes("B [B -- A] -- A"), as_bytes("A num -- A bool")
        before = [list(first), list(second)]
        calls = [(judge, 1), (form, 1), (weight, 1), (word, 1), (has, 2), (then, 2)]
        answers = {call: call(*[first, second][:count]) for call, count in calls}
        for some in itertools.permutations(calls):
            for call, count in some:
                self.assertEqual(call(*[first, second][:count]), answers[call])
            self.assertEqual([first, second], before)
        self.assertEqual([answers[call] for call, count in calls],
                         [[0], told("A [A -- B] -- B"), [5], [-2], [0], told("A [A -- B num] -- B bool")])


class Large(unittest.TestCase):
    def test_no_call_goes_deep_or_takes_long(self):
        names = [name("a", number) for number in range(250)]
        texts = ["A" + " a" * 509 + " -- A", "A " + " ".join(names) + " -- A", "A" + "[A--A]a" * 145 + " a a--A",
                 "A " + nested(["list"] * 40, "a") + " " + nested(["effect, left"] * 40, "a") + " -- A",
                 "A " + nested(["pair, first"] * 40, "b") + " -- A " + nested(["effect, right"] * 40, "b")]
        given = [as_bytes(text) for text in texts]
        with Quick():
            for text in given:
                self.assertEqual([len(call(text)) for call in (judge, weight, word)], [1, 1, 1])
                self.assertIn(form(text)[0], [0, -5])
            for t, u in itertools.product(given, repeat=2):
                self.assertIn(has(t, u), [[0], [1]])
                self.assertIn(then(t, u)[0], [0, 1, -5])


if __name__ == "__main__":
    unittest.main()
