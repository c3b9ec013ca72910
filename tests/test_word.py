"""The built-in words and their effects."""

import contextlib
import io
import itertools
import unittest

from stackeffects.effects import word
from tests.helper import BLANKS, BUILT_IN_EFFECTS, BUILT_IN_WORDS, FAULTS, CallCase, as_bytes


class WordCase(CallCase):
    call = staticmethod(word)

    def gives(self, text, effect):
        self.answers(text, [0, len(effect)] + as_bytes(effect))

    def none(self, text):
        self.answers(text, [-2])

    def none_but_words(self, text):
        """Just what the table names is a word."""
        if text in BUILT_IN_WORDS:
            self.gives(text, BUILT_IN_WORDS[text])
        else:
            self.none(text)


class Words(WordCase):
    def test_every_word(self):
        self.assertEqual(len(BUILT_IN_WORDS), 29)
        for text, effect in BUILT_IN_WORDS.items():
            self.gives(text, effect)

    def test_byte_by_byte(self):
        self.answers("drop", [0, 8, 65, 32, 97, 32, 45, 45, 32, 65])
        self.answers("+", [0, 18, 65, 32, 110, 117, 109, 32, 110, 117, 109, 32, 45, 45, 32, 65, 32, 110, 117, 109])
        self.answers("nil", [0, 14, 65, 32, 45, 45, 32, 65, 32, 108, 105, 115, 116, 40, 97, 41])
        self.answers("unpair", [0, 20, 65, 32, 112, 97, 105, 114, 40, 97, 44, 98, 41, 32, 45, 45, 32, 65, 32, 97, 32,
                                98])

    def test_words_with_one_effect(self):
        for words in ["+ - * / mod", "= <", "and or"]:
            self.assertEqual(len({tuple(word(as_bytes(one))) for one in words.split()}), 1)
        self.assertNotEqual(word(as_bytes("+")), word(as_bytes("=")))
        self.assertNotEqual(word(as_bytes("not")), word(as_bytes("and")))

    def test_prints_nothing(self):
        out = io.StringIO()
        with contextlib.redirect_stdout(out), contextlib.redirect_stderr(out):
            word(as_bytes("dup"))
            word(as_bytes("dupe"))
        self.assertEqual(out.getvalue(), "")

    def test_answers_are_not_shared(self):
        for text in list(BUILT_IN_WORDS) + ["", "x"]:
            first = word(as_bytes(text))
            expected = list(first)
            first.append(7)
            self.assertEqual(word(as_bytes(text)), expected)


class NoWords(WordCase):
    def test_the_empty_text(self):
        self.none("")

    def test_blanks(self):
        for text, blank in itertools.product(BUILT_IN_WORDS, BLANKS + "\x00\x0b\xa0"):
            self.none(blank + text)
            self.none(text + blank)
            self.none(blank + text + blank)
            self.none(text[:1] + blank + text[1:])
        for blank in BLANKS:
            self.none(blank)

    def test_capitals(self):
        for text in BUILT_IN_WORDS:
            self.none_but_words(text.upper())
            self.none_but_words(text.capitalize())
            for place in range(len(text)):
                self.none_but_words(text[:place] + text[place:].upper())

    def test_parts_of_words_and_more_than_words(self):
        for text in BUILT_IN_WORDS:
            for place in range(len(text)):
                self.none_but_words(text[:place])
                self.none_but_words(text[place:])
                self.none_but_words(text[:place] + text[place + 1:])
            for more in ["s", "1", "+", "\x00", text]:
                self.none(text + more)
                self.none(more + text)
        for first, second in itertools.product(BUILT_IN_WORDS, repeat=2):
            self.none_but_words(first + second)
            self.none(first + " " + second)
        self.none_but_words("pair")
        self.none_but_words("unpair")

    def test_one_byte_that_differs(self):
        for text in BUILT_IN_WORDS:
            for place in range(len(text)):
                for byte in range(256):
                    changed = text[:place] + chr(byte) + text[place + 1:]
                    if changed != text:
                        self.none_but_words(changed)

    def test_every_byte(self):
        found = ""
        for byte in range(256):
            self.none_but_words(chr(byte))
            found += chr(byte) if word([byte])[0] == 0 else ""
        self.assertEqual(found, "*+-/<=")

    def test_two_bytes(self):
        found = [bytes(two) for two in itertools.product(range(256), repeat=2) if word(list(two)) != [-2]]
        self.assertEqual(found, [b"if", b"or"])

    def test_what_is_known_elsewhere(self):
        for text in ["num", "bool", "list", "--", "(", ")", "[", "]", ",", "A", "a", "A1", ">", "sub", "add", "div",
                     "eq", "lt", "xor", "true", "false", "quote", "call", "i", "nip", "tuck", "unless", "loop"]:
            self.none(text)
        for text in BUILT_IN_EFFECTS + [text for text, place in FAULTS]:
            self.none(text)

    def test_long_texts(self):
        for text in BUILT_IN_WORDS:
            for length in [1023, 1024, 1025, 1999, 2000]:
                self.none(text.ljust(length))
                self.none(text.rjust(length))
                self.none((text * length)[:length])
        for byte in [0, 32, 97, 255]:
            self.none(chr(byte) * 1025)
            self.none(chr(byte) * 2000)


if __name__ == "__main__":
    unittest.main()
