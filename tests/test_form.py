"""Promise 2: a form is read again as the same effect. Promise 1 holds of form's text as of judge's."""

import contextlib
import io
import re
import unittest

from stackeffects.effects import form, judge, token_bytes, tokens_of
from tests.helper import (BLANKS, BUILT_IN_EFFECTS, WRAPS, CallCase, Canonical, Plain, Tree, as_bytes, name, nested,
                          tokens)


def spread(text, gap):
    """The same tokens, each with gap around it."""
    return gap + gap.join(tokens(text)) + gap


class FormCase(CallCase):
    call = staticmethod(form)

    def gives(self, text, expected):
        self.answers(text, [0, len(expected)] + as_bytes(expected))

    def written(self, text):
        answer = form(as_bytes(text))
        self.assertEqual(answer[0], 0, text)
        self.assertEqual(answer[1], len(answer) - 2, text)
        return bytes(answer[2:]).decode("ascii")


class Written(FormCase):
    def test_effects_of_the_built_in_words_are_their_own_form(self):
        for text in BUILT_IN_EFFECTS:
            self.gives(text, text)

    def test_every_kind_of_item(self):
        items = ["num", "bool", "a", "list(num)", "pair(a,bool)", "pair(a,b)", "[A -- B]", "[A -- B num]",
                 "[A a -- B list(b)]", "list([A -- B])", "pair([A -- B],[B -- A])", "list(list(bool))",
                 "pair(pair(a,num),list(list(b)))", "[A [B -- C num] -- D [E bool -- E]]", "[A [A [A -- A] -- A] -- A]"]
        for item in items:
            text = "A " + item + " num " + item + " -- A " + item + " " + item
            self.gives(text, text)

    def test_blanks_make_no_difference(self):
        texts = BUILT_IN_EFFECTS + ["A -- A", "A pair(list([A -- B a]),b) [B [A -- C] -- B] -- C"]
        for text in texts:
            for blank in BLANKS:
                self.gives(spread(text, blank), text)
                self.gives(spread(text, blank * 3), text)
            self.gives(spread(text, BLANKS), text)
            tight = re.sub(r" *(--|[()\[\],]) *", r"\1", text)
            self.gives(tight, text)

    def test_prints_nothing(self):
        out = io.StringIO()
        with contextlib.redirect_stdout(out), contextlib.redirect_stderr(out):
            form(as_bytes("A -- A"))
            form(as_bytes("A --"))
        self.assertEqual(out.getvalue(), "")

    def test_answers_are_not_shared(self):
        for text in ["A a -- A", "A --", "x" * 1025, "A -- A" + " num" * 119]:
            first = form(as_bytes(text))
            expected = list(first)
            first.append(7)
            self.assertEqual(form(as_bytes(text)), expected)


class NamedInOrder(FormCase):
    def test_rows_and_items_each_by_themselves(self):
        self.gives("C c -- B b", "A a -- B b")
        self.gives("B -- A", "A -- B")
        self.gives("B b a -- B a b", "A a b -- A b a")
        self.gives("X -- X x y z x", "A -- A a b c a")
        self.gives("A b -- B a", "A a -- B b")
        self.gives("Z num -- Z", "A num -- A")

    def test_same_letter_as_row_and_as_item(self):
        self.gives("Q q -- R r", "A a -- B b")
        self.gives("B c -- C b", "A a -- B b")

    def test_within_lists_pairs_and_effects(self):
        self.gives("C list(c) -- D pair(b,c)", "A list(a) -- B pair(b,a)")
        self.gives("C [D d -- E [C -- D c]] -- E list(pair(c,d))", "A [B a -- C [A -- B b]] -- C list(pair(b,a))")
        self.gives("Z pair([Y -- X],[X -- Y z]) -- Z y", "A pair([B -- C],[C -- B a]) -- A b")
        self.gives("Z list([Y list(y) -- Z]) -- Y y", "A list([B list(a) -- A]) -- B a")

    def test_different_digits_are_different_variables(self):
        self.gives("A1 a -- A a1 a11 a111 a12 a112", "A a -- B b c d e f")
        self.gives("A999 z999 -- Z999 a999 z99", "A a -- B b c")
        self.gives("A26 -- A2 a26 a2 a6", "A -- B a b c")
        self.gives("A10 -- B9", "A -- B")
        self.gives("A1 -- B", "A -- B")
        self.gives("Z -- A1 z a1", "A -- B a b")

    def test_more_than_26_items(self):
        for count in [25, 26, 27, 28, 52, 53, 54, 78, 79, 104, 105, 118]:
            expected = "A " + " ".join(name("a", number) for number in range(count)) + " -- A"
            self.gives(expected, expected)
            other = "B " + " ".join(name("a", 4000 - number) for number in range(count)) + " -- B"
            self.gives(other, expected)
        self.assertEqual(self.written("A " + " ".join(name("a", number) for number in range(118)) + " -- A").split()[-3],
                         "n4")

    def test_more_than_26_rows(self):
        for count in [2, 26, 28, 52, 54, 78, 80]:
            expected = self.with_rows(range(count))
            self.gives(expected, expected)
            self.gives(self.with_rows(range(25000, 25000 - count, -1)), expected)
        self.assertTrue(expected.endswith(" -- B3"))

    def with_rows(self, numbers):
        """An effect whose row variables are those of these numbers, each once, from the left."""
        names = [name("A", number) for number in numbers]
        within = ["[" + left + " -- " + right + "]" for left, right in zip(names[1:-1:2], names[2:-1:2])]
        return " ".join([names[0]] + within + ["--", names[-1]])


class Numbers(unittest.TestCase):
    def test_variables_have_the_numbers_that_the_document_tells(self):
        for text, number in [("A", 0), ("Z", 25), ("A1", 26), ("B1", 27), ("Z1", 51), ("A2", 52), ("A10", 260),
                             ("Z99", 2599), ("A100", 2600), ("Z999", 25999)]:
            self.assertEqual(tokens_of(as_bytes(text)), [("ROW", number, 0)])
            self.assertEqual(tokens_of(as_bytes(text.lower())), [("ITEM", number, 0)])

    def test_a_number_is_written_as_it_is_read(self):
        for number in range(26000):
            self.assertEqual(token_bytes("ROW", number), as_bytes(name("A", number)))
            self.assertEqual(tokens_of(token_bytes("ITEM", number)), [("ITEM", number, 0)])


class ReadAgain(FormCase):
    def test_effects_at_random(self):
        taken, heavy = 0, 0
        for start in range(1000):
            tree = Tree(start)
            effect = tree.effect(6)
            text = "".join(token + tree.blank() for token in tokens(Plain().effect(effect)))
            canonical = Canonical()
            expected = canonical.effect(effect)
            if len(text) > 1024:
                continue
            if canonical.weight > 120:
                heavy += 1
                self.answers(text, [-5])
                continue
            taken += 1
            self.gives(text, expected)
            self.gives(expected, expected)
        self.assertGreater(taken, 700)
        self.assertGreater(heavy, 20)

    def test_a_form_is_its_own_form(self):
        texts = ["Z z9 y8 -- Z y8 z9", "Q" + " pair(z,[Q -- R y])" * 15 + " -- R", "D" + " [C -- B]" * 39 + " -- A",
                 "B " + nested(list(WRAPS) * 8) + "--C"]
        for text in texts:
            once = self.written(text)
            self.assertEqual(self.written(once), once)
            self.assertEqual(judge(as_bytes(once)), [0])

    def test_a_form_names_other_variables_otherwise_and_the_same_the_same(self):
        text = "D d e -- E [D f -- C list(d)] pair(e,f)"
        once = tokens(self.written(text))
        read = tokens(text)
        self.assertEqual(len(once), len(read))
        met = set(zip(read, once))
        self.assertEqual(len(met), len(set(read)))
        self.assertEqual(len(met), len(set(once)))

    def test_the_longest_forms_can_be_read_again(self):
        deep = nested(["list"] * 40, "bool")
        text = "A " + deep + " -- A " + deep + " " + nested(["list"] * 35, "bool")
        self.gives(text, text)


class Weight(FormCase):
    def check(self, item, weight):
        """The item weighs as much as told, filled up with num to 120 and to 121."""
        count = 118 // weight
        items = (" " + item) * count + " num" * (118 - count * weight)
        self.gives("A" + items + " -- A", "A" + items + " -- A")
        self.gives("A -- A" + items, "A -- A" + items)
        for more in [" num", " bool", " a"]:
            self.answers("A" + items + more + " -- A", [-5])
            self.answers("A -- A" + items + more, [-5])
            self.answers("A" + items + " -- A" + more, [-5])

    def test_each_kind(self):
        self.check("num", 1)
        self.check("bool", 1)
        self.check("a", 1)
        self.check("list(a)", 2)
        self.check("pair(a,a)", 3)
        self.check("[A -- A]", 3)

    def test_what_is_within(self):
        self.check("list(list(num))", 3)
        self.check("list([A -- A])", 4)
        self.check("pair(list(a),pair(num,bool))", 6)
        self.check("[A a num -- A bool]", 6)
        self.check("[A [A -- A] -- A list(a)]", 8)
        for wrap in WRAPS:
            self.check(nested([wrap] * 10, "[A -- A]"), 3 + 10 * {"list": 1, "pair": 2, "effe": 3}[wrap[:4]])

    def test_many_variables(self):
        items = " ".join(name("a", number) for number in range(118))
        self.gives("B " + items + " -- C", "A " + items + " -- B")
        self.answers("B " + items + " num -- C", [-5])

    def test_much_too_heavy(self):
        self.answers("A -- A" + " a" * 509, [-5])
        self.answers("A" + "[A--A]" * 150 + "--A", [-5])


class Refused(FormCase):
    def test_too_long(self):
        self.gives("B b -- B".ljust(1024), "A a -- A")
        self.gives("B b -- B".rjust(1024), "A a -- A")
        self.answers("B b -- B".ljust(1025), [-6])
        self.answers("B b -- B".ljust(2000), [-6])

    def test_faults(self):
        for text, place in [("", 0), (" \n", 2), ("A", 1), ("A -- ", 5), ("A -- a", 5), ("A list(a b) -- A", 9),
                            ("A pair(a) -- A", 8), ("A [A -- A -- A", 10), ("A a0 -- A", 2), ("A1000 -- A", 0),
                            ("A nums -- A", 2), ("A - A", 2), ("A -- A ]", 7), ("A\x00 -- A", 1), ("A -- A \xe9", 7),
                            ("A " + "list(" * 41, 202), (" " * 1024, 1024)]:
            self.answers(text, [-1, 1, place])
            self.assertEqual(judge(as_bytes(text)), [-1, 1, place], text)

    def test_depth(self):
        self.gives("A " + nested(["list"] * 40) + " -- A", "A " + nested(["list"] * 40) + " -- A")
        self.answers("A " + nested(["list"] * 41) + " -- A", [-1, 1, 202])
        self.gives("A " + nested(["pair, first"] * 40) + " -- A", "A " + nested(["pair, first"] * 40) + " -- A")
        self.answers("A " + nested(["pair, first"] * 41) + " -- A", [-1, 1, 202])
        self.answers("A " + nested(["effect, left"] * 40) + " -- A", [-5])
        self.answers("A " + nested(["effect, left"] * 41) + " -- A", [-1, 1, 2 + 40 * 3])

    def test_too_long_comes_first(self):
        heavy = "A -- A" + " a" * 200
        self.answers(heavy, [-5])
        self.answers(heavy.ljust(1024), [-5])
        self.answers(heavy.ljust(1025), [-6])
        self.answers("?".ljust(1025), [-6])
        self.answers((heavy + " )").ljust(1025), [-6])
        self.answers("A --".ljust(1025), [-6])

    def test_a_fault_comes_ahead_of_the_weight(self):
        heavy = "A -- A" + " a" * 200
        self.answers(heavy + " )", [-1, 1, len(heavy) + 1])
        self.answers(heavy + " -- A", [-1, 1, len(heavy) + 1])
        self.answers("? " + heavy, [-1, 1, 0])
        self.answers("A" + " a" * 200, [-1, 1, 401])


if __name__ == "__main__":
    unittest.main()
