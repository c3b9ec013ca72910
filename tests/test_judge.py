"""Promise 1: a text is one effect's, or its fault is told at the first token that can't be."""

import contextlib
import io
import unittest

from stackeffects.effects import judge
from tests.helper import BUILT_IN_EFFECTS, FAULTS, WRAPS, CallCase, as_bytes, first_wrong, nested

LETTERS_AND_DIGITS = as_bytes("ABCDEFGHIJKLMNOPQRSTUVWXYZabcdefghijklmnopqrstuvwxyz0123456789")
BLANKS = [32, 9, 10, 13]


class JudgeCase(CallCase):
    call = staticmethod(judge)

    def takes(self, text):
        self.answers(text, [0])

    def faults(self, text, place):
        self.answers(text, [-1, 1, place])


class Ordinary(JudgeCase):
    def test_effects_of_the_built_in_words(self):
        for text in BUILT_IN_EFFECTS:
            self.takes(text)

    def test_every_kind_of_item_on_both_sides(self):
        items = ["num", "bool", "a", "list(num)", "pair(a,bool)", "[A -- B]", "list([A a -- B list(b)])",
                 "pair(pair(a,b),list(list(c)))", "[A [B -- C num] -- D [E bool -- E]]"]
        for item in items:
            self.takes("A " + item + " -- A")
            self.takes("A -- A " + item)
            self.takes("A " + item + " " + item + " -- B " + item + " " + item)

    def test_rows_without_items_and_with_many(self):
        self.takes("A -- A")
        self.takes("A -- B")
        self.takes("A" + " num" * 50 + " -- B" + " a" * 50)

    def test_each_blank_parts_tokens(self):
        for blank in BLANKS:
            self.takes("A a -- A list(a)".replace(" ", chr(blank)))
            self.takes("A a -- A list(a)".replace(" ", chr(blank) * 7))

    def test_blanks_around_every_token(self):
        tokens = "A pair ( a , list ( b ) ) [ A -- A ] -- A".split()
        for blank in BLANKS:
            self.takes(chr(blank) + chr(blank).join(tokens) + chr(blank))
        self.takes(" \t\n\r" + " \t\n\r".join(tokens) + " \t\n\r")

    def test_no_blank_where_none_is_needed(self):
        self.takes("A--A")
        self.takes("A[A--A]list(a)pair(a,b)list(num)[B--C]--A[A--A]num")

    def test_prints_nothing(self):
        out = io.StringIO()
        with contextlib.redirect_stdout(out), contextlib.redirect_stderr(out):
            judge(as_bytes("A -- A"))
            judge(as_bytes("A --"))
        self.assertEqual(out.getvalue(), "")

    def test_answers_are_not_shared(self):
        for text in ["A -- A", "A --", "x" * 1025]:
            first = judge(as_bytes(text))
            expected = list(first)
            first.append(7)
            self.assertEqual(judge(as_bytes(text)), expected)


class Variables(JudgeCase):
    def test_every_letter_alone_and_with_digits(self):
        for letter in "ABCDEFGHIJKLMNOPQRSTUVWXYZ":
            for digits in ["", "1", "9", "10", "99", "100", "909", "999"]:
                row, item = letter + digits, letter.lower() + digits
                self.takes(row + " " + item + " -- " + row)
                self.faults(item + " -- A", 0)
                self.faults("A -- A " + row, 7)

    def test_four_digits(self):
        for digits in ["1000", "9999", "12345"]:
            self.faults("A" + digits + " -- A", 0)
            self.faults("A a" + digits + " -- A", 2)

    def test_a_0_in_front(self):
        for digits in ["0", "00", "01", "012", "000"]:
            self.faults("A" + digits + " -- A", 0)
            self.faults("A a" + digits + " -- A", 2)

    def test_runs_that_are_no_token(self):
        runs = ["ab", "aB", "Ab", "numa", "num1", "nums", "nu", "Num", "NUM", "boo", "boolean", "lis", "list1", "lists",
                "List", "pairs", "pai", "1", "1a", "12", "0", "a1b", "a1B2", "a12b", "numnum", "z1z"]
        for run in runs:
            self.faults("A " + run + " -- A", 2)
            self.faults(run, 0)
            self.faults("A -- A list(" + run + ")", 12)

    def test_bytes_that_are_none(self):
        known = LETTERS_AND_DIGITS + BLANKS + as_bytes("()[],")
        for byte in range(256):
            if byte not in known:
                self.faults("A a " + chr(byte) + " -- A", 4)
                self.faults("A a" + chr(byte) + "-- A", 5 if byte == 45 else 3)
                self.faults(chr(byte), 0)

    def test_a_bad_byte_ends_a_run(self):
        self.faults("A a_b -- A", 3)
        self.faults("A\xe9 -- A", 1)

    def test_dashes(self):
        self.faults("A - A", 2)
        self.faults("A - - A", 2)
        self.faults("A -", 2)
        self.faults("A --- A", 4)
        self.faults("A ---- A", 4)
        self.faults("A -- - A", 5)
        self.faults("A -- A -", 7)
        self.faults("A-1 -- A", 1)


class FaultPlace(JudgeCase):
    def test_no_token_at_all(self):
        self.faults("", 0)
        for blank in BLANKS:
            self.faults(chr(blank), 1)
            self.faults(chr(blank) * 9, 9)

    def test_text_ends_too_early(self):
        tokens = "A num a list ( a ) pair ( a , [ B -- C ] ) -- A".split()
        for count in range(1, len(tokens)):
            part = " ".join(tokens[:count])
            self.faults(part, len(part))
            self.faults(part + "  \n", len(part) + 3)
        self.takes(" ".join(tokens))

    def test_first_token_that_cant_be(self):
        for text, place in FAULTS:
            self.faults(text, place)
            self.faults("\n\t" + text + " ", place + 2)

    def test_what_stands_behind_the_fault_does_not_matter(self):
        for behind in ["", " ", "A -- A", " ? ! ", ")", " -- A", "\x00" * 9]:
            self.faults("A -- A ) " + behind, 7)

    def test_every_short_row_of_tokens_as_the_second_reader_does(self):
        kinds = ["A", "--", "num", "a", "list", "pair", "(", ")", ",", "[", "]", "?"]
        begun = [[]]
        seen = 0
        for _ in range(10):
            longer = []
            for tokens in begun:
                wrong = first_wrong(tokens)
                text = " ".join(tokens)
                if wrong is None:
                    self.assertEqual(judge(as_bytes(text)), [0], text)
                else:
                    place = len(" ".join(tokens[:wrong] + [""])) if wrong < len(tokens) else len(text)
                    self.assertEqual(judge(as_bytes(text)), [-1, 1, place], text)
                seen += 1
                if wrong is None or wrong == len(tokens):
                    longer.extend(tokens + [kind] for kind in kinds)
            begun = longer
        self.assertGreater(seen, 20000)


class Depth(JudgeCase):
    def check(self, names):
        self.assertEqual(len(names), 41)
        for head, tail in [("A ", " -- A"), ("A -- A ", "")]:
            self.takes(head + nested(names[:40]) + tail)
            deepest = nested(names[:40], "\x01").index("\x01")
            self.faults(head + nested(names) + tail, len(head) + deepest)

    def test_each_kind_by_itself(self):
        for name in WRAPS:
            self.check([name] * 41)

    def test_mixed(self):
        names = list(WRAPS)
        for start in range(len(names)):
            self.check([names[(start + step) % len(names)] for step in range(41)])
        self.check(["list"] * 40 + ["effect, left"])
        self.check(["list"] * 40 + ["pair, first"])
        self.check(["effect, right"] * 40 + ["list"])

    def test_the_41st_is_the_fault_even_if_nothing_follows(self):
        self.faults("A " + "list(" * 40 + "list", 202)
        self.faults("A " + "list(" * 40 + "pair", 202)
        self.faults("A " + "list(" * 40 + "[", 202)
        self.faults("A " + "list(" * 40, 202)
        self.faults("A " + "list(" * 39 + "list", 2 + 39 * 5 + 4)

    def test_side_by_side_is_not_deeper(self):
        self.takes("A" + " list(a)" * 60 + " -- A")
        self.takes("A" + " [A -- A]" * 60 + " -- A")
        self.takes("A" + " pair(list(a),list(b))" * 40 + " -- A")
        deep = nested(["list"] * 39)
        self.takes("A pair(" + deep + "," + deep + ") -- A " + deep)
        self.faults("A pair(" + deep + ",list(" + deep + ")) -- A", 2 + 5 + len(deep) + 1 + 5 + 38 * 5)


class Length(JudgeCase):
    def test_1024_and_1025_bytes(self):
        self.takes("A -- A".ljust(1024))
        self.answers("A -- A".ljust(1025), [-6])
        self.takes("A -- A".rjust(1024))
        self.answers("A -- A".rjust(1025), [-6])
        self.takes("A -- A" + " a" * 509)
        self.answers("A -- A" + " a" * 509 + " ", [-6])
        self.faults(" " * 1024, 1024)
        self.faults("A --".ljust(1024), 1024)
        self.faults("A -- A".ljust(1023) + "?", 1023)

    def test_too_long_comes_ahead_of_a_fault(self):
        for text in ["?", "", "A --", "A -- A )"]:
            self.answers(text.ljust(1025), [-6])
        self.answers("A -- A".ljust(1024) + "?", [-6])
        self.answers("(" * 1025, [-6])

    def test_2000_bytes(self):
        self.answers("A -- A".ljust(2000), [-6])
        self.answers("list(" * 400, [-6])
        self.answers("\xff" * 2000, [-6])

    def test_long_tokens_and_many_tokens(self):
        self.faults("A" * 1024, 0)
        self.faults("A " + "7" * 1022, 2)
        self.faults("(" * 1024, 0)
        self.faults("A" + "[" * 1023, 2)
        self.faults("A " + "[A" * 511, 2 + 80)


if __name__ == "__main__":
    unittest.main()
