"""What an effect weighs. Promise 1 holds of weight's text as of judge's."""

import contextlib
import io
import unittest

from stackeffects.effects import form, judge, weight
from tests.helper import (BLANKS, BUILT_IN_EFFECTS, FAULTS, WRAPS, CallCase, Canonical, Plain, Tree, as_bytes, name,
                          nested, tokens)

# Each kind that holds others adds 1, and what stands beside the one that is wrapped.
WRAP_WEIGHTS = {"list": 1, "pair, first": 2, "pair, second": 2, "effect, left": 3, "effect, right": 3}

# No text of 1,024 bytes is heavier: [A--A] brings 3 for 6 bytes and parts one more variable from what is ahead of it,
# which then takes 1 byte; any other list, pair or variable takes 2 bytes or more for each 1 that it weighs.
HEAVIEST = "A" + "[A--A]a" * 145 + " a a--A"


class WeightCase(CallCase):
    call = staticmethod(weight)

    def weighs(self, text, expected):
        self.answers(text, [expected])

    def item_weighs(self, item, expected):
        """The item's own weight, in a row of the effect and in one within [ ], alone, twice and on both sides."""
        self.weighs("A " + item + " -- A", 2 + expected)
        self.weighs("A -- A " + item, 2 + expected)
        self.weighs("A " + item + " " + item + " -- A", 2 + 2 * expected)
        self.weighs("A " + item + " -- A " + item, 2 + 2 * expected)
        self.weighs("A [A " + item + " -- A] -- A", 5 + expected)
        self.weighs("A list(" + item + ") -- A pair(" + item + "," + item + ")", 4 + 3 * expected)


class Ordinary(WeightCase):
    def test_effects_of_the_built_in_words(self):
        weights = [5, 3, 6, 7, 8, 5, 5, 4, 5, 5, 7, 9, 9, 11, 10, 7, 11, 4, 7, 13, 8, 7, 7]
        self.assertEqual(len(weights), len(BUILT_IN_EFFECTS))
        for text, expected in zip(BUILT_IN_EFFECTS, weights):
            self.weighs(text, expected)

    def test_rows_with_no_item_and_with_several(self):
        self.weighs("A -- A", 2)
        self.weighs("A -- B", 2)
        self.weighs("A num -- B", 3)
        self.weighs("A -- B num", 3)
        self.weighs("A num bool a b -- A a bool", 8)
        self.weighs("A [B -- C] [B a -- C] -- A [B -- B a a]", 14)

    def test_each_kind(self):
        for item in ["num", "bool", "a", "b", "z", "a1", "z999"]:
            self.item_weighs(item, 1)
        self.item_weighs("list(num)", 2)
        self.item_weighs("pair(num,bool)", 3)
        self.item_weighs("[A -- A]", 3)
        for row in ["A", "Z", "A1", "Z999"]:
            self.weighs(row + " -- " + row, 2)
            self.item_weighs("[" + row + " -- A]", 3)

    def test_within_one_another(self):
        self.item_weighs("list(list(a))", 3)
        self.item_weighs("list(pair(a,a))", 4)
        self.item_weighs("list([A -- A])", 4)
        self.item_weighs("pair(list(a),bool)", 4)
        self.item_weighs("pair(bool,list(a))", 4)
        self.item_weighs("pair(pair(a,b),pair(num,bool))", 7)
        self.item_weighs("pair([A -- A],[A -- A a])", 8)
        self.item_weighs("[A list(a) -- A]", 5)
        self.item_weighs("[A -- A pair(a,b)]", 6)
        self.item_weighs("[A [A -- A] -- A [A -- A]]", 9)
        self.item_weighs("[A num [A bool -- B list(a)] -- B a pair(a,[B -- A])]", 16)

    def test_the_same_variable_weighs_1_at_each_place(self):
        self.weighs("A a a a -- A a a", 7)
        self.weighs("A a b c -- A d e", 7)
        self.weighs("A a b c -- B d e", 7)
        self.weighs("A list(a) -- A pair(a,a)", 7)
        self.weighs("A [A -- A] -- A", 5)
        self.weighs("A [B -- C] -- D", 5)

    def test_signs_and_blanks_weigh_nothing(self):
        for text in ["A -- A", "A list(a) pair(a,[B -- C num]) -- B [A -- A]"]:
            expected = weight(as_bytes(text))
            for blank in BLANKS:
                self.answers(blank + blank.join(tokens(text)) + blank, expected)
                self.answers(blank * 5 + (blank * 5).join(tokens(text)) + blank * 5, expected)
        self.weighs("A list(a) pair(a,[B -- C num]) -- B [A -- A]", 13)
        self.weighs("A--A", 2)
        self.weighs("A[A--A]list(a)[A--A]--A", 10)

    def test_effects_at_random(self):
        taken = 0
        for start in range(600):
            tree = Tree(start)
            effect = tree.effect(6)
            text = "".join(token + tree.blank() for token in tokens(Plain().effect(effect)))
            if len(text) > 1024:
                continue
            taken += 1
            canonical = Canonical()
            canonical.effect(effect)
            self.weighs(text, canonical.weight)
        self.assertGreater(taken, 450)

    def test_prints_nothing(self):
        out = io.StringIO()
        with contextlib.redirect_stdout(out), contextlib.redirect_stderr(out):
            weight(as_bytes("A -- A"))
            weight(as_bytes("A --"))
        self.assertEqual(out.getvalue(), "")

    def test_answers_are_not_shared(self):
        for text in ["A a -- A", "A --", "x" * 1025, HEAVIEST]:
            first = weight(as_bytes(text))
            expected = list(first)
            first.append(7)
            self.assertEqual(weight(as_bytes(text)), expected)


class Heavy(WeightCase):
    def test_around_120(self):
        for count in range(110, 130):
            self.weighs("A -- A" + " a" * count, 2 + count)
            self.weighs("A" + " num" * count + " -- A", 2 + count)
            self.weighs("A " + " ".join(name("a", number) for number in range(count)) + " -- B", 2 + count)
        for count in [38, 39, 40, 41]:
            self.weighs("A" + "[A--B]" * count + " -- A", 2 + 3 * count)

    def test_form_refuses_just_what_weighs_more_than_120(self):
        for item in ["a", "list(a)", "pair(a,b)", "[A -- B]", "list([A num -- B])"]:
            for count in range(1, 130):
                text = as_bytes("A" + (" " + item) * count + " -- A")
                if len(text) <= 1024:
                    self.assertEqual(form(text) == [-5], weight(text)[0] > 120)

    def test_as_heavy_as_a_text_can_be(self):
        self.assertEqual(len(HEAVIEST), 1023)
        self.weighs(HEAVIEST, 584)
        self.weighs(HEAVIEST + " ", 584)
        self.weighs(" " + HEAVIEST, 584)
        self.answers(HEAVIEST + "  ", [-6])
        self.weighs("A -- A" + " a" * 509, 511)
        self.weighs("A" + "[A--A]" * 170 + "--A", 512)
        self.weighs("A" + " num" * 254 + " -- A", 256)
        self.weighs("A" + " list(a)" * 127 + " -- A", 256)
        self.weighs("A" + " pair(a,b)" * 101 + " -- A", 305)


class Depth(WeightCase):
    def check(self, names):
        self.assertEqual(len(names), 41)
        for head, tail in [("A ", " -- A"), ("A -- A ", "")]:
            self.weighs(head + nested(names[:40]) + tail, 3 + sum(WRAP_WEIGHTS[name] for name in names[:40]))
            deepest = nested(names[:40], "\x01").index("\x01")
            self.answers(head + nested(names) + tail, [-1, 1, len(head) + deepest])

    def test_each_kind_by_itself(self):
        for name in WRAPS:
            self.check([name] * 41)

    def test_mixed(self):
        names = list(WRAPS)
        for start in range(len(names)):
            self.check([names[(start + step) % len(names)] for step in range(41)])
        for last in WRAPS:
            for name in WRAPS:
                self.check([name] * 40 + [last])

    def test_less_deep(self):
        for name in WRAPS:
            for depth in range(40):
                self.weighs("A " + nested([name] * depth) + " -- A", 3 + depth * WRAP_WEIGHTS[name])

    def test_side_by_side(self):
        deep = nested(["list"] * 39)
        self.weighs("A pair(" + deep + "," + deep + ") -- A " + deep, 3 + 3 * 40)
        self.weighs("A [A " + deep + " -- A " + deep + "] -- A", 2 + 3 + 2 * 40)


class Refused(WeightCase):
    def as_judge(self, text, expected):
        self.answers(text, expected)
        self.assertEqual(judge(as_bytes(text)), expected, text)

    def test_first_token_that_cant_be(self):
        for text, place in FAULTS:
            self.as_judge(text, [-1, 1, place])
            self.as_judge("\n\t" + text + " ", [-1, 1, place + 2])

    def test_text_ends_too_early(self):
        parts = "A num a list ( a ) pair ( a , [ B -- C ] ) -- A".split()
        for count in range(len(parts)):
            part = " ".join(parts[:count])
            self.as_judge(part, [-1, 1, len(part)])
            self.as_judge(part + " \n", [-1, 1, len(part) + 2])
        self.weighs(" ".join(parts), 11)

    def test_tokens_that_are_none(self):
        for run in ["ab", "Ab", "nums", "Num", "1", "a0", "a01", "a1000", "-", "?", "\x00", "\x0b", "\xe9", "\xff"]:
            self.as_judge("A " + run + " -- A", [-1, 1, 2])
            self.as_judge("A -- A list(" + run + ")", [-1, 1, 12])

    def test_heavy_texts_with_a_fault(self):
        self.as_judge(HEAVIEST + "?", [-1, 1, 1023])
        self.as_judge("A" + " a" * 500, [-1, 1, 1001])
        self.as_judge("? -- A" + " a" * 500, [-1, 1, 0])

    def test_too_long_comes_first(self):
        self.weighs("A a -- A".ljust(1024), 3)
        self.weighs("A a -- A".rjust(1024), 3)
        for size in [1025, 1026, 1999, 2000]:
            for text in ["A a -- A", "", "?", "A --", "A -- A )", "A " + "list(" * 41]:
                self.as_judge(text.ljust(size), [-6])
                self.as_judge(text.rjust(size), [-6])
        self.as_judge("\xff" * 1025, [-6])
        self.as_judge("\xff" * 1024, [-1, 1, 0])
        self.as_judge(" " * 1024, [-1, 1, 1024])


if __name__ == "__main__":
    unittest.main()
