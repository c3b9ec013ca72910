"""What several test files use: texts as bytes, a check of one call, and a second, recursive reader of tokens."""

import unittest


def as_bytes(text):
    return list(text.encode("latin-1"))


class CallCase(unittest.TestCase):
    """Checks answers of the one function that a test file names as call."""

    def answers(self, text, expected):
        given = as_bytes(text)
        before = list(given)
        answer = self.call(given)
        self.assertEqual(answer, expected, text)
        self.assertIs(type(answer), list)
        self.assertTrue(all(type(number) is int for number in answer), text)
        self.assertEqual(given, before, text)
        self.assertEqual(self.call(given), expected, text)


BUILT_IN_EFFECTS = [
    "A a -- A a a",
    "A a -- A",
    "A a b -- A b a",
    "A a b -- A a b a",
    "A a b c -- A b c a",
    "A num num -- A num",
    "A num num -- A bool",
    "A bool -- A bool",
    "A bool bool -- A bool",
    "A [A -- B] -- B",
    "A a [A -- B] -- B a",
    "A bool [A -- B] [A -- B] -- B",
    "A [A -- A bool] [A -- A] -- A",
    "A [B -- C] [C -- D] -- A [B -- D]",
    "A a [B a -- C] -- A [B -- C]",
    "A a -- A [B -- B a]",
    "A [B [B -- C] -- C] -- A [B -- C]",
    "A -- A list(a)",
    "A a list(a) -- A list(a)",
    "A list(a) [A -- B] [A a list(a) -- B] -- B",
    "A list(a) [A a -- A] -- A",
    "A a b -- A pair(a,b)",
    "A pair(a,b) -- A a b",
]

# How each kind that holds others is opened and closed again.
WRAPS = {
    "list": ("list(", ")"),
    "pair, first": ("pair(", ",num)"),
    "pair, second": ("pair(num,", ")"),
    "effect, left": ("[A ", " -- A]"),
    "effect, right": ("[A -- A ", "]"),
}


def nested(names, inner="num"):
    """An item: inner, within the kinds that are named, the first one outermost."""
    opened = "".join(WRAPS[name][0] for name in names)
    closed = "".join(WRAPS[name][1] for name in reversed(names))
    return opened + inner + closed


class Fault(Exception):
    pass


class Reader:
    """Reads token texts by the grammar, rule by rule; Fault holds the number of the first that can't be."""

    def __init__(self, tokens):
        self.tokens = tokens
        self.at = 0

    def sees(self, *choices):
        return self.at < len(self.tokens) and self.tokens[self.at] in choices

    def take(self, *choices):
        if not self.sees(*choices):
            raise Fault(self.at)
        self.at += 1

    def effect(self, depth):
        self.row(depth)
        self.take("--")
        self.row(depth)

    def row(self, depth):
        self.take("A", "B")
        while self.sees("num", "bool", "a", "b", "list", "pair", "["):
            self.item(depth)

    def item(self, depth):
        if self.sees("list", "pair", "["):
            if depth == 40:
                raise Fault(self.at)
            self.holder(depth + 1)
        else:
            self.take("num", "bool", "a", "b")

    def holder(self, depth):
        if self.sees("["):
            self.take("[")
            self.effect(depth)
            self.take("]")
            return
        two = self.sees("pair")
        self.take("list", "pair")
        self.take("(")
        self.item(depth)
        if two:
            self.take(",")
            self.item(depth)
        self.take(")")


def first_wrong(tokens):
    """The number of the first token that can't be, len(tokens) if more are needed, None if all is well."""
    reader = Reader(tokens)
    try:
        reader.effect(0)
    except Fault as fault:
        return fault.args[0]
    return None if reader.at == len(tokens) else reader.at
