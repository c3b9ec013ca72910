"""What several test files use: texts as bytes, a check of one call, recursive readers, effects at random."""

import inspect
import itertools
import random
import re
import signal
import sys
import unittest

from stackeffects.effects import judge

BLANKS = " \t\n\r"


def as_bytes(text):
    return list(text.encode("latin-1"))


def tokens(text):
    return re.findall(r"[A-Za-z0-9]+|--|[()\[\],]", text)


def name(first, number):
    digits = str(number // 26) if number > 25 else ""
    return chr(ord(first) + number % 26) + digits


class CallCase(unittest.TestCase):
    """Checks answers of the one function that a test file names as call."""

    def answers(self, text, expected):
        self.answers_all([text], expected)

    def answers_all(self, texts, expected):
        self.answers_lists([as_bytes(text) for text in texts], expected)

    def answers_lists(self, given, expected):
        before = [list(one) for one in given]
        told = [bytes(one) for one in given]
        answer = self.call(*given)
        self.assertEqual(answer, expected, told)
        self.assertIs(type(answer), list)
        self.assertTrue(all(type(number) is int for number in answer), told)
        self.assertEqual(given, before, told)
        self.assertEqual(self.call(*given), expected, told)


# Words that have one effect, and that effect.
BUILT_IN = [
    ("dup", "A a -- A a a"),
    ("drop", "A a -- A"),
    ("swap", "A a b -- A b a"),
    ("over", "A a b -- A a b a"),
    ("rot", "A a b c -- A b c a"),
    ("+ - * / mod", "A num num -- A num"),
    ("= <", "A num num -- A bool"),
    ("not", "A bool -- A bool"),
    ("and or", "A bool bool -- A bool"),
    ("apply", "A [A -- B] -- B"),
    ("dip", "A a [A -- B] -- B a"),
    ("if", "A bool [A -- B] [A -- B] -- B"),
    ("while", "A [A -- A bool] [A -- A] -- A"),
    ("compose", "A [B -- C] [C -- D] -- A [B -- D]"),
    ("curry", "A a [B a -- C] -- A [B -- C]"),
    ("unit", "A a -- A [B -- B a]"),
    ("fix", "A [B [B -- C] -- C] -- A [B -- C]"),
    ("nil", "A -- A list(a)"),
    ("cons", "A a list(a) -- A list(a)"),
    ("case", "A list(a) [A -- B] [A a list(a) -- B] -- B"),
    ("each", "A list(a) [A a -- A] -- A"),
    ("pair", "A a b -- A pair(a,b)"),
    ("unpair", "A pair(a,b) -- A a b"),
]
BUILT_IN_EFFECTS = [effect for words, effect in BUILT_IN]
BUILT_IN_WORDS = {one: effect for words, effect in BUILT_IN for one in words.split()}

# Texts that are no effect's, and the place of the first token that can't be.
FAULTS = [
    ("-- A", 0), ("num -- A", 0), ("a -- A", 0), ("( A -- A", 0), ("] A", 0), ("[A -- A]", 0), (" , A", 1),
    ("A B -- A", 2), ("A ) -- A", 2), ("A ( -- A", 2), ("A ] -- A", 2), ("A , -- A", 2), ("A -- -- A", 5),
    ("A -- a", 5), ("A -- [A -- A]", 5), ("A -- A -- A", 7), ("A -- A B", 7), ("A -- A ]", 7),
    ("A -- A )", 7), ("A -- A ,", 7), ("A -- A (", 7),
    ("A list a -- A", 7), ("A list() -- A", 7), ("A list(a b) -- A", 9), ("A list(a,b) -- A", 8),
    ("A list(A) -- A", 7), ("A list(a] -- A", 8), ("A list[a] -- A", 6), ("A list(A -- A) -- A", 7),
    ("A pair a -- A", 7), ("A pair(a) -- A", 8), ("A pair(a,) -- A", 9), ("A pair(,a) -- A", 7),
    ("A pair(a,b,c) -- A", 10), ("A pair(a b) -- A", 9), ("A pair(a,b] -- A", 10),
    ("A [a -- A] -- A", 3), ("A [] -- A", 3), ("A [A] -- A", 4), ("A [A -- ] -- A", 8), ("A [-- A] -- A", 3),
    ("A [A -- A -- A] -- A", 10), ("A [A -- A) -- A", 9), ("A [A -- A, -- A", 9), ("A [A -- A B", 10),
    ("A (a) -- A", 2), ("A num(a) -- A", 5), ("A a(b) -- A", 3), ("A(a) -- A", 1),
    ("A -- A list(a) )", 15), ("A -- A [A -- A] ]", 16), ("A ? -- A !", 2),
]

# How each kind that holds others is opened and closed again.
WRAPS = {
    "list": ("list(", ")"),
    "pair, first": ("pair(", ",num)"),
    "pair, second": ("pair(num,", ")"),
    "effect, left": ("[A ", " -- A]"),
    "effect, right": ("[A -- A ", "]"),
}


def nested(names, inner="num"):
    """An item: inner, within the kinds that are named, the first one outermost."""
    opened = "".join(WRAPS[name][0] for name in names)
    closed = "".join(WRAPS[name][1] for name in reversed(names))
    return opened + inner + closed


class RefusesTwo:
    """The refusals of a call that takes two texts; good_answer is what it answers to GOOD twice."""

    GOOD = "A a -- A"

    def test_first_token_that_cant_be(self):
        for text, place in FAULTS:
            self.answers_all([text, self.GOOD], [-1, 1, place])
            self.answers_all([self.GOOD, text], [-1, 2, place])
            self.answers_all(["\n " + text + " ", self.GOOD], [-1, 1, place + 2])
            self.answers_all([self.GOOD, "\n " + text + " "], [-1, 2, place + 2])

    def test_the_places_are_those_of_judge(self):
        texts = ["", " ", "A", "A --", "A -- \t", "A -- A)", "A nums -- A", "A a0 -- A", "A1000 -- A", "A -- A \xe9",
                 "A " + "list(" * 41, "A " + nested(["effect, left"] * 41) + " -- A", " " * 1024, "\xff" * 1024,
                 "A" + " a" * 511]
        for text in texts:
            place = judge(as_bytes(text))[2]
            self.assertEqual(judge(as_bytes(text)), [-1, 1, place])
            self.answers_all([text, self.GOOD], [-1, 1, place])
            self.answers_all([self.GOOD, text], [-1, 2, place])

    def test_t_comes_ahead_of_u(self):
        self.answers_all(["A -- A )", "A -- a"], [-1, 1, 7])
        self.answers_all(["A -- a", "A -- A )"], [-1, 1, 5])
        self.answers_all(["A --", ""], [-1, 1, 4])
        self.answers_all(["", "A --"], [-1, 1, 0])
        for (t, place), (u, other) in itertools.product(FAULTS[::7], repeat=2):
            self.answers_all([t, u], [-1, 1, place])

    def test_too_long(self):
        long = self.GOOD.ljust(1025)
        longest = self.GOOD.ljust(1024)
        self.answers_all([longest, longest], self.good_answer)
        self.answers_all([long, self.GOOD], [-6])
        self.answers_all([self.GOOD, long], [-6])
        self.answers_all([long, long], [-6])
        self.answers_all([longest, long], [-6])
        self.answers_all([long, longest], [-6])
        self.answers_all([self.GOOD.ljust(2000), self.GOOD], [-6])
        self.answers_all([self.GOOD, self.GOOD.rjust(2000)], [-6])
        self.answers_all(["\xff" * 2000, "list(" * 400], [-6])

    def test_too_long_comes_ahead_of_every_fault(self):
        for bad in ["", "?", "A --", "A -- A )", "A " + "list(" * 41]:
            self.answers_all([bad, self.GOOD.ljust(1025)], [-6])
            self.answers_all([self.GOOD.ljust(1025), bad], [-6])
            self.answers_all([bad.ljust(1025), self.GOOD], [-6])
            self.answers_all([self.GOOD, bad.ljust(1025)], [-6])
            self.answers_all([bad.ljust(1025), bad.ljust(1025)], [-6])
            self.answers_all([bad, bad.ljust(1025)], [-6])

    def test_41_deep(self):
        for wrap in WRAPS:
            deep = "A " + nested([wrap] * 41) + " -- A"
            place = 2 + nested([wrap] * 40, "\x01").index("\x01")
            self.answers_all([deep, self.GOOD], [-1, 1, place])
            self.answers_all([self.GOOD, deep], [-1, 2, place])
            self.answers_all([deep, deep], [-1, 1, place])

    def test_one_and_the_same_list(self):
        cases = [(self.GOOD, self.good_answer), ("A a -- a", [-1, 1, 7]), ("", [-1, 1, 0]), (" " * 1025, [-6])]
        for text, expected in cases:
            given = as_bytes(text)
            self.answers_lists([given, given], expected)
            self.assertEqual(given, as_bytes(text))


class Fault(Exception):
    pass


class Reader:
    """Reads token texts by the grammar, rule by rule; Fault holds the number of the first that can't be."""

    def __init__(self, tokens):
        self.tokens = tokens
        self.at = 0

    def sees(self, *choices):
        return self.at < len(self.tokens) and self.tokens[self.at] in choices

    def take(self, *choices):
        if not self.sees(*choices):
            raise Fault(self.at)
        self.at += 1

    def effect(self, depth):
        self.row(depth)
        self.take("--")
        self.row(depth)

    def row(self, depth):
        self.take("A", "B")
        while self.sees("num", "bool", "a", "b", "list", "pair", "["):
            self.item(depth)

    def item(self, depth):
        if self.sees("list", "pair", "["):
            if depth == 40:
                raise Fault(self.at)
            self.holder(depth + 1)
        else:
            self.take("num", "bool", "a", "b")

    def holder(self, depth):
        if self.sees("["):
            self.take("[")
            self.effect(depth)
            self.take("]")
            return
        two = self.sees("pair")
        self.take("list", "pair")
        self.take("(")
        self.item(depth)
        if two:
            self.take(",")
            self.item(depth)
        self.take(")")


def first_wrong(tokens):
    """The number of the first token that can't be, len(tokens) if more are needed, None if all is well."""
    reader = Reader(tokens)
    try:
        reader.effect(0)
    except Fault as fault:
        return fault.args[0]
    return None if reader.at == len(tokens) else reader.at


class Tree:
    """Effects made at random, from a fixed start, and written without a look at the program."""

    def __init__(self, start):
        self.random = random.Random(start)
        self.rows = [name("A", number) for number in self.random.sample(range(26000), 4)]
        self.items = [name("a", number) for number in self.random.sample(range(26000), 4)]

    def effect(self, room):
        return [self.row(room), self.row(room)]

    def row(self, room):
        count = self.random.randrange(2 * room) if room else 0
        return [self.random.choice(self.rows)] + [self.item(room - 1) for _ in range(count)]

    def item(self, room):
        kind = self.random.choice(["num", "bool", "var", "var", "list", "pair", "effect"] if room else ["num", "var"])
        if kind == "var":
            return ("var", self.random.choice(self.items))
        if kind == "list":
            return ("list", self.item(room - 1))
        if kind == "pair":
            return ("pair", self.item(room - 1), self.item(room - 1))
        if kind == "effect":
            return ("effect", self.effect(room - 1))
        return (kind,)

    def blank(self):
        return "".join(self.random.choice(BLANKS) for _ in range(self.random.randrange(1, 3)))


class Canonical:
    def __init__(self):
        self.rows = []
        self.items = []
        self.weight = 0

    def variable(self, known, first, text):
        self.weight += 1
        if text not in known:
            known.append(text)
        return name(first, known.index(text))

    def effect(self, effect):
        return self.row(effect[0]) + " -- " + self.row(effect[1])

    def row(self, row):
        return " ".join([self.variable(self.rows, "A", row[0])] + [self.item(item) for item in row[1:]])

    def item(self, item):
        if item[0] == "var":
            return self.variable(self.items, "a", item[1])
        self.weight += 1
        if item[0] == "list":
            return "list(" + self.item(item[1]) + ")"
        if item[0] == "pair":
            return "pair(" + self.item(item[1]) + "," + self.item(item[2]) + ")"
        if item[0] == "effect":
            return "[" + self.effect(item[1]) + "]"
        return item[0]


class Plain(Canonical):
    """Keeps every variable's own name."""

    def variable(self, known, first, text):
        return text


# From here on an effect is a tuple of two rows. A row is a tuple of its variable's name and of items; an item is
# a name, num, bool, or a tuple of list or pair and its items, or of "effect" and two rows.


def read(text):
    """The effect of a text without a fault."""
    left = tokens(text)
    effect = read_effect(left)
    if left:
        raise ValueError(text)
    return effect


def read_effect(left):
    lower = read_row(left)
    left.pop(0)
    return (lower, read_row(left))


def read_row(left):
    row = (left.pop(0),)
    while left and left[0] not in ("--", "]"):
        row += (read_item(left),)
    return row


def read_item(left):
    kind = left.pop(0)
    if kind == "[":
        item = ("effect",) + read_effect(left)
    elif kind in ("list", "pair"):
        left.pop(0)
        item = (kind, read_item(left))
        if kind == "pair":
            left.pop(0)
            item += (read_item(left),)
    else:
        return kind
    left.pop(0)
    return item


def filled(row, put):
    return put.get(row[0], row[:1]) + tuple(filled_item(item, put) for item in row[1:])


def filled_item(item, put):
    if isinstance(item, str):
        return put.get(item, item)
    if item[0] == "effect":
        return ("effect", filled(item[1], put), filled(item[2], put))
    return item[:1] + tuple(filled_item(part, put) for part in item[1:])


def text_of(effect):
    return " -- ".join(" ".join([row[0]] + [item_text(item) for item in row[1:]]) for row in effect)


def item_text(item):
    if isinstance(item, str):
        return item
    if item[0] == "effect":
        return "[" + text_of(item[1:]) + "]"
    return item[0] + "(" + ",".join(item_text(part) for part in item[1:]) + ")"


def variables_of(text):
    """The names of a text's variables, as they are met."""
    return [token for token in tokens(text) if re.fullmatch(r"[A-Za-z][0-9]*", token)]


def in_order(text):
    """The same text with its variables named in order."""
    new = {}
    for one in variables_of(text):
        first = "A" if one.isupper() else "a"
        new.setdefault(one, name(first, sum(known.isupper() == one.isupper() for known in new)))
    return re.sub(r"[A-Za-z]+[0-9]*", lambda found: new.get(found.group(), found.group()), text)


def weighed(text):
    return sum(token[0].isalpha() or token == "[" for token in tokens(text))


class Quick:
    """Raises an error in what takes too long, and in what calls itself too deep."""

    def __init__(self, seconds=20, calls=80):
        self.seconds = seconds
        self.calls = calls

    def __enter__(self):
        self.limit = sys.getrecursionlimit()
        self.handler = signal.signal(signal.SIGALRM, self.stop)
        sys.setrecursionlimit(len(inspect.stack(0)) + self.calls)
        signal.alarm(self.seconds)

    def __exit__(self, *error):
        signal.alarm(0)
        sys.setrecursionlimit(self.limit)
        signal.signal(signal.SIGALRM, self.handler)

    def stop(self, number, frame):
        raise TimeoutError("it takes too long")
