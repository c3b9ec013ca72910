"""What several test files use: texts as bytes, a check of one call, a second, recursive reader, effects at random."""

import random
import re
import unittest

BLANKS = " \t\n\r"


def as_bytes(text):
    return list(text.encode("latin-1"))


def tokens(text):
    return re.findall(r"[A-Za-z0-9]+|--|[()\[\],]", text)


def name(first, number):
    digits = str(number // 26) if number > 25 else ""
    return chr(ord(first) + number % 26) + digits


class CallCase(unittest.TestCase):
    """Checks answers of the one function that a test file names as call."""

    def answers(self, text, expected):
        self.answers_all([text], expected)

    def answers_all(self, texts, expected):
        self.answers_lists([as_bytes(text) for text in texts], expected)

    def answers_lists(self, given, expected):
        before = [list(one) for one in given]
        told = [bytes(one) for one in given]
        answer = self.call(*given)
        self.assertEqual(answer, expected, told)
        self.assertIs(type(answer), list)
        self.assertTrue(all(type(number) is int for number in answer), told)
        self.assertEqual(given, before, told)
        self.assertEqual(self.call(*given), expected, told)


BUILT_IN_EFFECTS = [
    "A a -- A a a",
    "A a -- A",
    "A a b -- A b a",
    "A a b -- A a b a",
    "A a b c -- A b c a",
    "A num num -- A num",
    "A num num -- A bool",
    "A bool -- A bool",
    "A bool bool -- A bool",
    "A [A -- B] -- B",
    "A a [A -- B] -- B a",
    "A bool [A -- B] [A -- B] -- B",
    "A [A -- A bool] [A -- A] -- A",
    "A [B -- C] [C -- D] -- A [B -- D]",
    "A a [B a -- C] -- A [B -- C]",
    "A a -- A [B -- B a]",
    "A [B [B -- C] -- C] -- A [B -- C]",
    "A -- A list(a)",
    "A a list(a) -- A list(a)",
    "A list(a) [A -- B] [A a list(a) -- B] -- B",
    "A list(a) [A a -- A] -- A",
    "A a b -- A pair(a,b)",
    "A pair(a,b) -- A a b",
]

# Texts that are no effect's, and the place of the first token that can't be.
FAULTS = [
    ("-- A", 0), ("num -- A", 0), ("a -- A", 0), ("( A -- A", 0), ("] A", 0), ("[A -- A]", 0), (" , A", 1),
    ("A B -- A", 2), ("A ) -- A", 2), ("A ( -- A", 2), ("A ] -- A", 2), ("A , -- A", 2), ("A -- -- A", 5),
    ("A -- a", 5), ("A -- [A -- A]", 5), ("A -- A -- A", 7), ("A -- A B", 7), ("A -- A ]", 7),
    ("A -- A )", 7), ("A -- A ,", 7), ("A -- A (", 7),
    ("A list a -- A", 7), ("A list() -- A", 7), ("A list(a b) -- A", 9), ("A list(a,b) -- A", 8),
    ("A list(A) -- A", 7), ("A list(a] -- A", 8), ("A list[a] -- A", 6), ("A list(A -- A) -- A", 7),
    ("A pair a -- A", 7), ("A pair(a) -- A", 8), ("A pair(a,) -- A", 9), ("A pair(,a) -- A", 7),
    ("A pair(a,b,c) -- A", 10), ("A pair(a b) -- A", 9), ("A pair(a,b] -- A", 10),
    ("A [a -- A] -- A", 3), ("A [] -- A", 3), ("A [A] -- A", 4), ("A [A -- ] -- A", 8), ("A [-- A] -- A", 3),
    ("A [A -- A -- A] -- A", 10), ("A [A -- A) -- A", 9), ("A [A -- A, -- A", 9), ("A [A -- A B", 10),
    ("A (a) -- A", 2), ("A num(a) -- A", 5), ("A a(b) -- A", 3), ("A(a) -- A", 1),
    ("A -- A list(a) )", 15), ("A -- A [A -- A] ]", 16), ("A ? -- A !", 2),
]

# How each kind that holds others is opened and closed again.
WRAPS = {
    "list": ("list(", ")"),
    "pair, first": ("pair(", ",num)"),
    "pair, second": ("pair(num,", ")"),
    "effect, left": ("[A ", " -- A]"),
    "effect, right": ("[A -- A ", "]"),
}


def nested(names, inner="num"):
    """An item: inner, within the kinds that are named, the first one outermost."""
    opened = "".join(WRAPS[name][0] for name in names)
    closed = "".join(WRAPS[name][1] for name in reversed(names))
    return opened + inner + closed


class Fault(Exception):
    pass


class Reader:
    """Reads token texts by the grammar, rule by rule; Fault holds the number of the first that can't be."""

    def __init__(self, tokens):
        self.tokens = tokens
        self.at = 0

    def sees(self, *choices):
        return self.at < len(self.tokens) and self.tokens[self.at] in choices

    def take(self, *choices):
        if not self.sees(*choices):
            raise Fault(self.at)
        self.at += 1

    def effect(self, depth):
        self.row(depth)
        self.take("--")
        self.row(depth)

    def row(self, depth):
        self.take("A", "B")
        while self.sees("num", "bool", "a", "b", "list", "pair", "["):
            self.item(depth)

    def item(self, depth):
        if self.sees("list", "pair", "["):
            if depth == 40:
                raise Fault(self.at)
            self.holder(depth + 1)
        else:
            self.take("num", "bool", "a", "b")

    def holder(self, depth):
        if self.sees("["):
            self.take("[")
            self.effect(depth)
            self.take("]")
            return
        two = self.sees("pair")
        self.take("list", "pair")
        self.take("(")
        self.item(depth)
        if two:
            self.take(",")
            self.item(depth)
        self.take(")")


def first_wrong(tokens):
    """The number of the first token that can't be, len(tokens) if more are needed, None if all is well."""
    reader = Reader(tokens)
    try:
        reader.effect(0)
    except Fault as fault:
        return fault.args[0]
    return None if reader.at == len(tokens) else reader.at


class Tree:
    """Effects made at random, from a fixed start, and written without a look at the program."""

    def __init__(self, start):
        self.random = random.Random(start)
        self.rows = [name("A", number) for number in self.random.sample(range(26000), 4)]
        self.items = [name("a", number) for number in self.random.sample(range(26000), 4)]

    def effect(self, room):
        return [self.row(room), self.row(room)]

    def row(self, room):
        count = self.random.randrange(2 * room) if room else 0
        return [self.random.choice(self.rows)] + [self.item(room - 1) for _ in range(count)]

    def item(self, room):
        kind = self.random.choice(["num", "bool", "var", "var", "list", "pair", "effect"] if room else ["num", "var"])
        if kind == "var":
            return ("var", self.random.choice(self.items))
        if kind == "list":
            return ("list", self.item(room - 1))
        if kind == "pair":
            return ("pair", self.item(room - 1), self.item(room - 1))
        if kind == "effect":
            return ("effect", self.effect(room - 1))
        return (kind,)

    def blank(self):
        return "".join(self.random.choice(BLANKS) for _ in range(self.random.randrange(1, 3)))


class Canonical:
    def __init__(self):
        self.rows = []
        self.items = []
        self.weight = 0

    def variable(self, known, first, text):
        self.weight += 1
        if text not in known:
            known.append(text)
        return name(first, known.index(text))

    def effect(self, effect):
        return self.row(effect[0]) + " -- " + self.row(effect[1])

    def row(self, row):
        return " ".join([self.variable(self.rows, "A", row[0])] + [self.item(item) for item in row[1:]])

    def item(self, item):
        if item[0] == "var":
            return self.variable(self.items, "a", item[1])
        self.weight += 1
        if item[0] == "list":
            return "list(" + self.item(item[1]) + ")"
        if item[0] == "pair":
            return "pair(" + self.item(item[1]) + "," + self.item(item[2]) + ")"
        if item[0] == "effect":
            return "[" + self.effect(item[1]) + "]"
        return item[0]


class Plain(Canonical):
    """Keeps every variable's own name."""

    def variable(self, known, first, text):
        return text
