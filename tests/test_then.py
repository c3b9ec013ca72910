"""Promise 3: what comes of two is the most general, and it doesn't matter which two of three are joined first.

Promise 1 holds of both texts of then as of judge's.
"""

import contextlib
import io
import itertools
import random
import unittest

from stackeffects.effects import form, has, judge, then
from tests.helper import (BLANKS, BUILT_IN_EFFECTS, WRAPS, CallCase, Plain, Quick, RefusesTwo, Tree, as_bytes, filled,
                          filled_item, in_order, item_text, name, nested, read, text_of, tokens, variables_of, weighed)

DUP, DROP, SWAP, OVER, ROT, PLUS, LESS, NOT, AND, APPLY, DIP, IF = BUILT_IN_EFFECTS[:12]
WHILE, COMPOSE, CURRY, UNIT, FIX, NIL, CONS, CASE, EACH, PAIR, UNPAIR = BUILT_IN_EFFECTS[12:]

# What comes of an effect and this one, in either order, is the effect itself.
NOTHING = "A -- A"


class Clash(Exception):
    pass


class Joined:
    """What comes of t and then u, found with whole effects: a variable is replaced everywhere at once."""

    def __init__(self, t, u):
        left, right = read(t), renamed_apart(u, variables_of(t))
        self.below, self.between, self.above = left[0], left[1], right[1]
        self.equal = [(left[1], right[0])]
        while self.equal:
            self.step(*self.equal.pop())

    def step(self, one, other):
        if one == other:
            return
        if is_row(one) and len(one) > 1 and len(other) > 1:
            self.equal += [(one[:-1], other[:-1]), (one[-1], other[-1])]
        elif is_row(one) and len(one) == 1:
            self.replace(one[0], other)
        elif is_row(one):
            self.replace(other[0], one)
        elif one in ("num", "bool") and other in ("num", "bool"):
            raise Clash
        elif isinstance(one, str) and one not in ("num", "bool"):
            self.replace(one, other)
        elif isinstance(other, str) and other not in ("num", "bool"):
            self.replace(other, one)
        elif one[0] == other[0] and not isinstance(one, str) and not isinstance(other, str):
            self.equal += list(zip(one[1:], other[1:]))
        else:
            raise Clash

    def replace(self, variable, new):
        if variable in variables_of(text_of((new, new)) if is_row(new) else item_text(new)):
            raise Clash
        put = {variable: new}
        self.below, self.between, self.above = [filled(row, put) for row in (self.below, self.between, self.above)]
        self.equal = [[filled(side, put) if is_row(side) else filled_item(side, put) for side in pair]
                      for pair in self.equal]


def renamed_apart(u, taken):
    fresh = (number for number in itertools.count(20000) if not {name("A", number), name("a", number)} & set(taken))
    put = {}
    for one in variables_of(u):
        if one not in put:
            put[one] = (name("A", next(fresh)),) if one.isupper() else name("a", next(fresh))
    return tuple(filled(row, put) for row in read(u))


def is_row(one):
    return isinstance(one, tuple) and one[0].isupper()


def expected_of(t, u):
    """The answer of then, by the way of whole effects."""
    try:
        found = Joined(t, u)
    except Clash:
        return [1]
    text = in_order(text_of((found.below, found.above)))
    return [0, len(text)] + as_bytes(text) if weighed(text) <= 120 else [-5]


class ThenCase(CallCase):
    call = staticmethod(then)

    def setUp(self):
        self.enterContext(Quick(seconds=120, calls=900))

    def gives(self, t, u, expected):
        self.answers_all([t, u], [0, len(expected)] + as_bytes(expected))

    def none(self, t, u):
        self.answers_all([t, u], [1])

    def none_either_way(self, left, right):
        """No effect comes of it where t gives the one row and u takes the other, either way round."""
        self.none("Z -- " + left, right + " -- Z")
        self.none("Z -- " + right, left + " -- Z")

    def heavy(self, t, u):
        self.answers_all([t, u], [-5])

    def as_expected(self, t, u):
        expected = expected_of(t, u)
        self.answers_all([t, u], expected)
        return expected[0]

    def both_ways(self, texts):
        """What comes of all texts, joined from the left and from the right: the same."""
        left, right = texts[0], texts[-1]
        for one in texts[1:]:
            left = self.after(left, one)
        for one in reversed(texts[:-1]):
            right = self.after(one, right)
        self.assertEqual(left, right, texts)
        return left

    def after(self, t, u):
        """The text that comes of t and u, "none" if there is none for them or for one of them, "heavy" for -5."""
        self.assertNotIn("heavy", [t, u])
        if "none" in [t, u]:
            return "none"
        answer = then(as_bytes(t), as_bytes(u))
        if answer[0] != 0:
            return {1: "none", -5: "heavy"}[answer[0]]
        self.assertEqual(answer[1], len(answer) - 2, [t, u])
        return bytes(answer[2:]).decode("ascii")


class BuiltIn(ThenCase):
    def test_two_words(self):
        self.gives(DUP, PLUS, "A num -- A num")
        self.gives(DUP, DROP, "A a -- A a")
        self.gives(SWAP, SWAP, "A a b -- A a b")
        self.gives(SWAP, DROP, "A a b -- A b")
        self.gives(OVER, OVER, "A a b -- A a b a b")
        self.gives(ROT, ROT, "A a b c -- A c a b")
        self.gives(PLUS, PLUS, "A num num num -- A num")
        self.gives(PLUS, LESS, "A num num num -- A bool")
        self.gives(LESS, NOT, "A num num -- A bool")
        self.gives(LESS, AND, "A bool num num -- A bool")
        self.gives(DROP, DROP, "A a b -- A")
        self.gives(NIL, CONS, "A a -- A list(a)")
        self.gives(CONS, CONS, "A a a list(a) -- A list(a)")
        self.gives(PAIR, UNPAIR, "A a b -- A a b")
        self.gives(UNPAIR, PAIR, "A pair(a,b) -- A pair(a,b)")
        self.gives(DUP, PAIR, "A a -- A pair(a,a)")

    def test_two_words_with_effects_within(self):
        self.gives(UNIT, APPLY, "A a -- A a")
        self.gives(UNIT, UNIT, "A a -- A [B -- B [C -- C a]]")
        self.gives(UNIT, DIP, "A a b -- A b a")
        self.gives(UNIT, COMPOSE, "A [B -- C] a -- A [B -- C a]")
        self.gives(DUP, UNIT, "A a -- A a [B -- B a]")
        self.gives(DUP, COMPOSE, "A [B -- B] -- A [B -- B]")
        self.gives(DUP, FIX, "A [B [B -- C] -- C] -- A [B [B -- C] -- C] [B -- C]")
        self.gives(CURRY, APPLY, "A a [A a -- B] -- B")
        self.gives(COMPOSE, APPLY, "A [A -- B] [B -- C] -- C")
        self.gives(APPLY, APPLY, "A [A -- B [B -- C]] -- C")
        self.gives(IF, APPLY, "A bool [A -- B [B -- C]] [A -- B [B -- C]] -- C")
        self.gives(WHILE, DROP, "A a [A a -- A a bool] [A a -- A a] -- A")
        self.gives(SWAP, APPLY, "A [A a -- B] a -- B")

    def test_words_that_dont_go_together(self):
        for t, u in [(PLUS, NOT), (LESS, PLUS), (NIL, PLUS), (UNIT, NOT), (PAIR, APPLY), (CONS, UNPAIR), (DUP, APPLY),
                     (DUP, CONS), (OVER, IF), (UNIT, WHILE), (UNIT, FIX), (UNIT, EACH), (PLUS, APPLY)]:
            self.none(t, u)

    def test_all_pairs(self):
        found = [0, 0]
        for t, u in itertools.product(BUILT_IN_EFFECTS, repeat=2):
            found[self.as_expected(t, u)] += 1
        self.assertEqual(sum(found), 23 * 23)
        self.assertGreater(min(found), 100)

    def test_all_three_either_way(self):
        pairs = {(t, u): self.after(t, u) for t, u in itertools.product(BUILT_IN_EFFECTS, repeat=2)}
        answers = []
        for t, u, v in itertools.product(BUILT_IN_EFFECTS, repeat=3):
            answers.append(self.after(pairs[t, u], v))
            self.assertEqual(answers[-1], self.after(t, pairs[u, v]), [t, u, v])
        self.assertGreater(answers.count("none"), 3000)
        self.assertGreater(answers.count("heavy"), 0)
        self.assertGreater(len(answers) - answers.count("none") - answers.count("heavy"), 3000)

    def test_many_words_after_one_another(self):
        chosen = random.Random(3)
        longer = 0
        for _ in range(300):
            texts = [chosen.choice(BUILT_IN_EFFECTS[:12] + BUILT_IN_EFFECTS[13:16]) for _ in range(5)]
            longer += self.both_ways(texts) != "none"
        self.assertGreater(longer, 30)
        self.assertEqual(self.both_ways([DUP, PLUS, DUP, LESS, NOT]), "A num -- A bool")
        self.assertEqual(self.both_ways([SWAP, UNIT, COMPOSE, APPLY]), "A a [A -- B] -- B a")
        self.assertEqual(self.both_ways([UNIT, SWAP, UNIT, SWAP, COMPOSE, APPLY]), "A a b -- A a b")
        self.assertEqual(self.both_ways([ROT, ROT, ROT]), "A a b c -- A a b c")
        self.assertEqual(self.both_ways([NIL, CONS, CONS, CONS]), "A a a a -- A list(a)")


class Rows(ThenCase):
    def test_u_takes_more_than_t_gives(self):
        self.gives("A -- A num", "A a bool num -- A a", "A a bool -- A a")
        self.gives("A -- A", "A num bool -- A list(num)", "A num bool -- A list(num)")
        self.gives("A bool -- A num", "A a b c -- A c a", "A a b bool -- A num a")
        self.gives("A -- B", "A num num -- A num", "A -- B num")
        self.gives("A a -- A", "A num -- A", "A num a -- A")
        self.gives("A a -- A", "A a b -- A b a", "A a b c -- A b a")

    def test_t_gives_more_than_u_takes(self):
        self.gives("A -- A num bool a", "A a -- A", "A -- A num bool")
        self.gives("A -- A num bool", "A -- A", "A -- A num bool")
        self.gives("A a -- A a a a", "A a -- A [B -- B a]", "A a -- A a a [B -- B a]")
        self.gives("A -- A list(a) pair(a,b)", "A pair(a,b) -- A b a", "A -- A list(a) b a")
        self.gives("A -- B num bool", "A bool -- A", "A -- B num")

    def test_the_uppermost_items_meet(self):
        self.gives("A -- A num bool", "A bool -- A", "A -- A num")
        self.none("A -- A num bool", "A num -- A")
        self.gives("A -- A num", "A bool num -- A", "A bool -- A")
        self.none("A -- A num", "A num bool -- A")
        self.gives("A a b c -- A c b a", "A num bool list(num) -- A", "A list(num) bool num -- A")

    def test_a_row_variable_on_one_side_only(self):
        self.gives("A -- B", "A -- B", "A -- B")
        self.gives("A -- B", "A num -- A", "A -- B")
        self.gives("A a -- B", "A -- C b", "A a -- B b")
        self.gives("A -- B a", "A a -- B a", "A -- B a")
        self.gives("A num -- A", "A -- B bool", "A num -- B bool")
        self.gives("A -- B num", "A a -- A a a", "A -- B num num")
        self.gives("A -- B", "A [A -- C] -- C a", "A -- B a")

    def test_a_row_variable_at_several_places(self):
        self.gives("A [A -- B] -- B", "A num -- A", "A [A -- B num] -- B")
        self.gives("A [A -- B] [A -- B] -- B", "A num bool -- A", "A [A -- B num bool] [A -- B num bool] -- B")
        self.gives("A -- A [B -- B]", "A [C num -- D] -- C [D -- A]", "A -- B [B num -- A]")
        self.gives("A [A -- A] -- A", "A num -- A bool", "A num [A num -- A num] -- A bool")
        self.gives("A -- A num", "A a -- A [A -- A a]", "A -- A [A -- A num]")
        self.gives("A -- A num bool", "A bool -- A [A a -- A]", "A -- A num [A num a -- A num]")

    def test_rows_within_effects(self):
        self.gives("A -- A [B num -- B]", "A [B -- C] -- A [C -- B]", "A -- A [B -- B num]")
        self.gives("A -- A [B -- B num]", "A [C bool -- D] -- A [D -- C]", "A -- A [B bool num -- B]")
        self.gives("A -- A [B num -- B]", "A [A -- B] -- B", "A num -- A")
        self.gives("A -- A [B a -- B a a]", "A [B -- C num] -- A list([B -- C])",
                   "A -- A list([B num -- B num])")
        self.gives("A -- A [B [C -- D] -- D]", "A [B [B -- C] -- E] -- A [E -- B]", "A -- A [B -- C]")
        self.none("A -- A [B num -- B]", "A [B bool -- C] -- A")
        self.none("A -- A [B -- B num]", "A [B -- B bool] -- A")
        self.gives("A -- A [B -- B num]", "A [B -- B a] -- A a [B -- B]", "A -- A num [B -- B]")


class Names(ThenCase):
    def test_the_same_name_in_both_is_not_the_same_variable(self):
        self.gives("A a -- A", "A -- A a", "A a -- A b")
        self.gives("A a -- B", "B -- A a", "A a -- B b")
        self.gives("A b -- A list(b)", "A b -- A b b", "A a -- A list(a) list(a)")
        self.gives("A a b -- A a b", "A b a -- A list(a) b", "A a b -- A list(b) a")
        self.gives("A a -- A pair(a,a)", "A a -- A [A -- B a]", "A a -- A [A -- B pair(a,a)]")
        self.gives("A num -- A", "A a -- A a num", "A a num -- A a num")

    def test_other_names_make_no_difference(self):
        new = {"A": "D", "B": "A", "C": "Z99", "D": "C", "a": "c", "b": "a", "c": "b7"}
        for t, u in itertools.product(BUILT_IN_EFFECTS[::2], BUILT_IN_EFFECTS):
            expected = then(as_bytes(t), as_bytes(u))
            other_t, other_u = [" ".join(new.get(token, token) for token in tokens(text)) for text in (t, u)]
            self.answers_all([other_t, other_u], expected)
            self.answers_all([t, other_u], expected)
            self.answers_all([other_t, u], expected)

    def test_numbers_of_variables(self):
        self.gives("A z9 z99 z999 -- A z999 z9", "A999 a1 b1 -- A999 b1 a11 a1", "A a b c -- A a d c")
        self.gives("A1 a26 -- A1 a26", "A26 a2 -- A2 a2", "A a -- B a")

    def test_a_variable_becomes_the_same_at_each_place(self):
        self.gives("A a a -- A a", "A list(b) -- A b", "A list(a) list(a) -- A a")
        self.gives("A a b -- A pair(a,b)", "A pair(b,b) -- A b", "A a a -- A a")
        self.gives("A a b c -- A a b b c", "A a a b b -- A a b", "A a a a -- A a a")
        self.gives("A a b list(a) [C b -- C] -- A pair(a,b)", "A pair(num,[C -- D]) -- D",
                   "A num [B -- C] list(num) [D [B -- C] -- D] -- C")
        self.gives("A a b -- A a b", "A a a -- A [A a -- B a]", "A a a -- A [A a -- B a]")
        self.gives("A a b c d -- A a b c d a b c", "A a b c d b c d -- A d", "A a a a a -- A a")

    def test_named_in_order(self):
        self.gives("Z z -- Y y", NOTHING, "A a -- B b")
        self.gives("C c b a -- D [C c -- B b]", "A [B -- C] -- A d [E -- B]", "A a b c -- B d [C -- A a]")
        many = [name("a", number) for number in range(59)]
        self.gives("B " + " ".join(reversed(many)) + " -- B", "C -- C " + " ".join(many),
                   "A " + " ".join(many) + " -- A " + " ".join(name("a", number) for number in range(59, 118)))
        rows = ["[" + name("A", number) + " -- " + name("A", number + 1) + "]" for number in range(1, 79, 2)]
        self.gives("A9 " + " ".join(reversed(rows)) + " -- A9", NOTHING, "A " + " ".join(rows) + " -- A")

    def test_blanks_make_no_difference(self):
        for t, u in [(CURRY, APPLY), (PAIR, UNPAIR), (NIL, CONS), (UNIT, COMPOSE), (PLUS, NOT)]:
            expected = then(as_bytes(t), as_bytes(u))
            for gap, other in itertools.product(list(BLANKS) + [BLANKS], repeat=2):
                self.answers_all([gap + gap.join(tokens(t)) + gap, other + other.join(tokens(u)) + other], expected)
            tight = [text.replace(" [", "[").replace(" -- ", "--").replace("] ", "]") for text in (t, u)]
            self.answers_all(tight, expected)


class Nothing(ThenCase):
    def test_an_effect_and_nothing(self):
        taken, heavy = 0, 0
        texts = BUILT_IN_EFFECTS + [Plain().effect(Tree(start).effect(6)) for start in range(300)]
        for text in texts:
            if len(text) > 1024:
                continue
            expected = form(as_bytes(text))
            for nothing in [NOTHING, "Z9--Z9"]:
                self.answers_all([text, nothing], expected)
                self.answers_all([nothing, text], expected)
            taken += expected[0] == 0
            heavy += expected == [-5]
        self.assertGreater(taken, 200)
        self.assertGreater(heavy, 10)
        self.gives(NOTHING, NOTHING, NOTHING)

    def test_prints_nothing(self):
        out = io.StringIO()
        with contextlib.redirect_stdout(out), contextlib.redirect_stderr(out):
            for u in [NOTHING, "A num -- A", "A list(a) -- A", "A --"]:
                then(as_bytes("A a -- A num"), as_bytes(u))
        self.assertEqual(out.getvalue(), "")

    def test_answers_are_not_shared(self):
        for t, u in [(DUP, DROP), (PLUS, NOT), ("A", DUP), (DUP, "A"), (DUP, "x" * 1025), (NOTHING, tall("num", 119))]:
            first = then(as_bytes(t), as_bytes(u))
            expected = list(first)
            first.append(7)
            self.assertEqual(then(as_bytes(t), as_bytes(u)), expected)

    def test_nothing_is_kept_between_calls(self):
        for _ in range(2):
            self.gives(DUP, PLUS, "A num -- A num")
            self.none(PLUS, NOT)
            self.gives(DUP, DROP, "A a -- A a")
            self.heavy(tall("num", 60), tall("num", 60))
            self.gives(SWAP, SWAP, "A a b -- A a b")


def tall(item, count):
    """An effect that puts the item on the stack, so many times."""
    return "A -- A" + (" " + item) * count


class NoneThere(ThenCase):
    KINDS = ["num", "bool", "list(a)", "pair(a,b)", "[C -- D]"]

    def test_different_kinds(self):
        for one, other in itertools.combinations(self.KINDS, 2):
            self.none_either_way("Z " + one, "Z " + other)
            self.none_either_way("Z num " + one, "Y " + other)
            self.none_either_way("Z list(" + one + ")", "Z list(" + other + ")")
            self.none_either_way("Z pair(" + one + ",a)", "Z pair(" + other + ",a)")
            self.none_either_way("Z pair(a," + one + ")", "Z pair(a," + other + ")")
            self.none_either_way("Z [C " + one + " -- D]", "Z [C " + other + " -- D]")
            self.none_either_way("Z [C -- D " + one + "]", "Z [C -- D " + other + "]")
            self.none_either_way("Z " + one + " " + other, "Z x x")
            self.none_either_way("Z [C -- D " + one + "] " + other, "Z [E -- F x] x")
        for kind in self.KINDS:
            self.gives("Z -- Z " + kind, "Z " + kind + " -- Z", NOTHING)
            self.gives("Z -- Z " + kind, "Z x -- Z", NOTHING)
            self.gives("Z -- Z x", "Z " + kind + " -- Z", NOTHING)

    def test_different_far_below(self):
        for count in [1, 5, 100]:
            above = " num" * count
            self.none_either_way("Z num" + above, "Z bool" + above)
            self.none_either_way("Z a" + above, "Z num" + above + " bool")
            self.gives("Z -- Z a" + above, "Z bool" + above + " -- Z", NOTHING)
        deep = ["list", "pair, first", "effect, left", "pair, second", "effect, right"] * 8
        self.none_either_way("Z " + nested(deep, "num"), "Z " + nested(deep, "bool"))
        self.none_either_way("Z " + nested(deep, "num"), "Z " + nested(deep[1:], "num"))
        self.gives("Z -- Z " + nested(deep, "num"), "Z " + nested(deep[:39], "a") + " -- Z a", "A -- A [B -- B num]")

    def test_an_item_within_itself(self):
        for holder in ["list(a)", "pair(a,num)", "pair(num,a)", "[C a -- D]", "[C -- D a]", "[C num a bool -- D]",
                       "list(list(a))", "pair(b,list([C -- D pair(a,b)]))"]:
            other = item_text(filled_item(read("Z " + holder + " -- Z")[0][1], {"a": "c"}))
            self.none_either_way("Z a " + holder, "Z x x")
            self.none_either_way("Z " + holder + " a", "Z x x")
            self.none_either_way("Z a a", "Z a " + holder)
            self.none_either_way("Z pair(a," + holder + ")", "Z pair(x,x)")
            self.none_either_way("Z [C a -- D " + holder + "]", "Z [C x -- D x]")
            self.gives("Z -- Z a " + holder, "Z x y -- Z", NOTHING)
            self.gives("Z -- Z a " + other, "Z x x -- Z", NOTHING)

    def test_an_item_within_itself_through_others(self):
        self.none_either_way("Z a list(b) b list(a)", "Z x x y y")
        self.none_either_way("Z a list(b) b pair(c,num) c [C -- D a]", "Z x x y y z z")
        self.none_either_way("Z b a list(b) list(a)", "Z x y y x")
        self.none_either_way("Z a b list(a)", "Z list(x) x x")
        self.none_either_way("Z list(a) a", "Z b list(b)")
        self.gives("Z -- Z a list(b) b list(c)", "Z x x y y -- Z x", "A -- A list(list(a))")

    def test_a_row_within_itself(self):
        self.none_either_way("Z [C -- C num]", "Z [D -- D]")
        self.none_either_way("Z [C -- C a b]", "Z [D -- D]")
        self.none_either_way("Z [C num bool -- C]", "Z [D -- D]")
        self.none_either_way("Z [C num -- C]", "Z [C -- C num]")
        self.none_either_way("Z [C -- D] [C -- D num]", "Z [E -- E] [F -- F]")
        self.none_either_way("Z [C -- D] [C num -- D]", "Z [E -- E] [F -- F]")
        self.none_either_way("Z [C -- D] [D num -- E] [E -- C]", "Z [X -- X] [Y -- Y] [Z -- Z]")
        self.none_either_way("Z [C num -- C]", "Z [C -- C bool]")
        self.gives("Z -- Z [C -- C num]", "Z [C -- D] -- C [D -- E]", "A -- B [B num -- C]")

    def test_a_row_within_itself_through_effects(self):
        self.none_either_way("Z [C -- C [C -- D]]", "Z [E -- E]")
        self.none_either_way("Z [C -- C [D -- E]]", "Z [E -- E]")
        self.none_either_way("Z [C -- D] [D -- C list([D -- D])]", "Z [E -- E] [F -- F]")
        self.none_either_way("Z [C -- D] [C -- D a]", "Z x x")
        self.none_either_way("Z a a", "C [C -- D]")
        self.gives("Z -- Z a b", "C [C -- D] -- D", "A -- B")
        self.gives("Z a b -- Z a b", "C [C -- D] -- D", "A a [A a -- B] -- B")

    def test_a_row_and_an_item_within_one_another(self):
        self.none_either_way("Z b [B -- E] [B -- E] [C b -- E]", "Z x x y y")
        self.none_either_way("Z [B -- E] [C b -- E] b [B -- E]", "Z x x y y")
        self.none_either_way("Z b [B -- E] [B -- E] [C c -- E] c list(b)", "Z x x y y z z")
        self.none_either_way("Z b [B -- B]", "Z [C -- D] [C -- C [C -- D]]")
        self.gives("Z -- Z b [B -- E] [B -- E] [C c -- E]", "Z x x y y -- Z x", "A -- A [B a -- C]")

    def test_in_the_row_between_alone(self):
        self.none("A -- A a list(a)", "A a a -- A")
        self.none("A num -- B [C -- C num]", "A [B -- B] -- A num")
        self.gives("A num -- B [C -- C num]", "A [B -- B num] -- A num", "A num -- B num")

    def test_none_comes_ahead_of_too_heavy(self):
        self.none("A" + " num" * 200 + " -- A num", "A bool -- A")
        self.none("A" + " num" * 200 + " -- A a list(a)", "A a a -- A")
        self.none("A -- A num", "A bool -- A" + " num" * 200)
        self.heavy("A" + " num" * 200 + " -- A a list(b)", "A a a -- A")


def equations(shared, equal, out):
    """Texts t and u of which comes `Z -- Z out`, where each two items are equal.

    Variables stand in shared, by themselves or within items, and so are the same in t and in u.
    """
    t = " ".join(["Z -- Z"] + shared + [left for left, right in equal])
    u = " ".join(["Z"] + shared + [right for left, right in equal] + ["-- Z", out])
    return t, u


class Weights(ThenCase):
    def test_around_120(self):
        for count, more in [(0, 118), (118, 0), (59, 59), (100, 18)]:
            self.gives(tall("num", count), tall("num", more), tall("num", 118))
            self.heavy(tall("num", count + 1), tall("num", more))
            self.heavy(tall("num", count), tall("num", more + 1))
        for count in range(110, 126):
            text = "A" + " num" * count + " -- A bool"
            self.answers_all([text, NOT], form(as_bytes(text)))

    def check(self, item, weight):
        """The item weighs as much as told: as many as 120 allows, filled up with num to 120 and to 121."""
        count = 118 // weight
        filling = " num" * (118 - count * weight)
        t = "Z x -- Z" + " x" * (count - 1)
        u = "Z " + item + " -- Z " + item + filling
        self.gives(t, u, in_order("Z " + item + " -- Z" + (" " + item) * (count - 1) + filling))
        self.heavy(t, u + " num")
        self.heavy("Z num x -- Z" + " x" * (count - 1), u)
        self.heavy(t + " x", u)

    def test_each_kind(self):
        for item in ["num", "bool", "a", "list(num)", "list(a)", "pair(a,b)", "pair(num,list(a))", "[A -- B]",
                     "[A -- A]", "[A num -- B bool]", "list([A list(a) -- A pair(a,a)])", "[A [B -- C] -- A [C -- B]]"]:
            self.check(item, weighed(item))

    def test_heavy_texts_and_a_light_answer(self):
        self.gives(tall("num", 200), "A" + " num" * 200 + " -- A", NOTHING)
        self.gives("A -- B" + " a" * 400, "A" + " a" * 400 + " -- B", "A -- B")
        self.gives(tall("num", 200), "A" + " num" * 82 + " -- A", tall("num", 118))
        self.heavy(tall("num", 200), "A" + " num" * 81 + " -- A")


class Doubled(ThenCase):
    NAMES = [name("a", number) for number in range(56)]

    def tower(self, names):
        """Each item is a pair of the next one, twice."""
        return [(one, "pair(" + other + "," + other + ")") for one, other in zip(names, names[1:])]

    def written(self, levels):
        text = "a"
        for _ in range(levels):
            text = "pair(" + text + "," + text + ")"
        return text

    def test_each_thing_twice_many_times_over(self):
        equal = self.tower(self.NAMES)
        for order in [1, -1]:
            for levels in range(6):
                with Quick():
                    self.gives(*equations(self.NAMES, equal[::order], self.NAMES[55 - levels]),
                               "A -- A " + self.written(levels))
            for levels in [6, 7, 20, 55]:
                with Quick():
                    self.heavy(*equations(self.NAMES, equal[::order], self.NAMES[55 - levels]))

    def test_with_the_sides_turned(self):
        equal = self.tower(self.NAMES)
        turned = [(right, left) for left, right in equal]
        mixed = [pair if number % 2 else pair[::-1] for number, pair in enumerate(equal)]
        for some in [turned, mixed, turned[::-1], mixed[::-1]]:
            with Quick():
                self.heavy(*equations(self.NAMES, some, self.NAMES[0]))
                self.gives(*equations(self.NAMES, some, self.NAMES[52]), "A -- A " + self.written(3))

    def test_what_is_heavy_but_not_answered(self):
        equal = self.tower(self.NAMES)
        first, last = self.NAMES[0], self.NAMES[-1]
        with Quick():
            self.gives(*equations(self.NAMES, equal, "num"), "A -- A num")
            self.gives(*equations(self.NAMES, equal, last), "A -- A a")
            self.none(*equations(self.NAMES, equal + [(last, "list(" + first + ")")], "num"))
            self.none(*equations(self.NAMES, equal + [(first, "num")], "num"))

    def test_two_towers_made_equal(self):
        names = self.NAMES[:24]
        others = [one + "9" for one in names]
        shared = names + others
        equal = self.tower(names) + self.tower(others)
        for place in [0, len(equal)]:
            both = equal[:place] + [(names[0], others[0])] + equal[place:]
            with Quick():
                self.heavy(*equations(shared, both, names[0]))
                self.gives(*equations(shared, both, "pair(" + names[-1] + "," + others[-1] + ")"), "A -- A pair(a,a)")
                self.none(*equations(shared, both + [(names[-1], "list(" + others[0] + ")")], "num"))
                self.none(*equations(shared, both + [(names[-1], "num"), (others[-1], "bool")], "num"))
                self.none(*equations(shared, both + [(names[-1], others[-2])], "num"))

    def test_rows_twice_within_effects(self):
        rows = [name("A", number) for number in range(22)]
        equal = [("[" + one + "--Y]", "[" + other + "[" + other + "--" + other + "]--Y]")
                 for one, other in zip(rows, rows[1:])]
        shared = ["[" + one + "--Y]" for one in rows]
        written = "B"
        for levels in range(4):
            with Quick():
                self.gives(*equations(shared, equal, "[" + rows[21 - levels] + " -- X]"),
                           "A -- A [" + written + " -- C]")
            written += " [" + written + " -- " + written + "]"
        for levels in [5, 21]:
            with Quick():
                self.heavy(*equations(shared, equal, "[" + rows[21 - levels] + " -- X]"))
        with Quick():
            self.none(*equations(shared, equal + [("[" + rows[21] + " -- Y]", "[" + rows[0] + " -- Y]")], "num"))


class Depth(ThenCase):
    def test_more_than_40_deep(self):
        for wrap, first, second in [("list", 20, 21), ("list", 40, 1), ("list", 1, 40), ("list", 40, 40),
                                    ("pair, first", 40, 1), ("pair, first", 28, 30), ("pair, second", 20, 38)]:
            t, u = ["A a -- A " + nested([wrap] * depth, "a") for depth in (first, second)]
            self.gives(t, u, "A a -- A " + nested([wrap] * (first + second), "a"))

    def test_lists_and_effects_within_one_another(self):
        for wrap in ["effect, left", "effect, right"]:
            t = "Z a -- Z " + nested(["list"] * 39, "a")
            u = "Z a -- Z " + nested([wrap] * 25, "a")
            self.gives(t, u, in_order("Z a -- Z " + nested([wrap] * 25 + ["list"] * 39, "a")))
            self.gives(u, t, in_order("Z a -- Z " + nested(["list"] * 39 + [wrap] * 25, "a")))
            self.heavy(u, u)

    def test_what_is_answered_then_is_no_effects_text(self):
        t = "A a -- A " + nested(["list"] * 21, "a")
        text = self.after(t, t)
        place = len("A a -- A " + "list(" * 40)
        self.assertEqual(judge(as_bytes(text)), [-1, 1, place])
        self.answers_all([text, t], [-1, 1, place])
        self.answers_all([t, text], [-1, 2, place])

    def test_as_deep_as_an_answer_can_be(self):
        names = ["a", "b", "c", "d"]
        for last, deep in [(36, 116), (37, 117), (38, 118)]:
            equal = [(one, nested(["list"] * depth, other))
                     for one, other, depth in zip(names, names[1:], [40, 40, last])]
            t, u = equations(names, equal, "a")
            if deep < 118:
                self.gives(t, u, "A -- A " + nested(["list"] * deep, "a"))
            else:
                self.heavy(t, u)

    def test_deep_through_many_variables(self):
        names = [name("a", number) for number in range(46)]
        for ahead, behind in [("list(list(", "))"), ("pair(num,", ")"), ("pair(", ",num)"), ("[Z--Z ", "]")]:
            equal = [(one, ahead + other + behind) for one, other in zip(names, names[1:])]
            for some in [equal, equal[::-1]]:
                with Quick():
                    self.gives(*equations(names, some, "num"), "A -- A num")
                    self.none(*equations(names, some + [(names[-1], "list(a)")], "num"))


class Large(ThenCase):
    def test_long_rows(self):
        many = "A -- A" + " a" * 509
        takes = "A" + " a" * 509 + " -- A"
        self.assertEqual([len(many), len(takes)], [1024, 1024])
        with Quick():
            self.gives(many, takes, NOTHING)
            self.heavy(takes, many)
            self.gives(many, "A" + " a" * 508 + " -- A", "A -- A a")
            self.gives(many[:-2], takes, "A a -- A")
            self.gives(many, "A num" + " a" * 507 + " -- A", "A -- A num")
            self.gives(many, "A" + " a" * 507 + " num -- A", "A -- A num")
            self.none(many, "A num bool" + " a" * 500 + " -- A")
            self.none(many, "A bool" + " a" * 500 + " num -- A")
            self.none(many, "A" + " a" * 500 + " list(a) -- A")

    def test_many_variables(self):
        names = [name("a", number) for number in range(250)]
        gives, takes = "A -- A " + " ".join(names), "A " + " ".join(names) + " -- A"
        stepped = "A " + " ".join(names[7 * number % 250] for number in range(250)) + " -- A"
        with Quick():
            self.gives(gives, takes, NOTHING)
            self.gives(gives, takes + " a b a", "A -- A a b a")
            self.gives(gives, stepped + " a b a", "A -- A a b a")
            self.gives(gives, "A" + " a" * 250 + " -- B a", "A -- B a")
            self.gives(gives, "A" + " a" * 249 + " list(a) -- A", NOTHING)
            self.heavy(gives, "A" + " a" * 500 + " -- B a")
            self.none("A -- A" + " a" * 250, "A " + " ".join(names[:-1]) + " list(a) -- A")

    def test_one_after_another_made_equal(self):
        # What stands for the first of them is then far away.
        names = [name("a", number) for number in range(110)]
        last = names[-1]
        for order in [1, -1]:
            equal = list(zip(names, names[1:]))[::order]
            with Quick():
                self.gives(*equations(names, equal, "pair(a," + last + ")"), "A -- A pair(a,a)")
                self.gives(*equations(names, equal + [("a", "num")], last), "A -- A num")
                self.none(*equations(names, equal + [("a", "num"), (last, "bool")], last))
                self.none(*equations(names, equal + [("a", "list(" + last + ")")], "num"))

    def test_40_deep_and_1024_bytes(self):
        for step in range(len(WRAPS)):
            names = [list(WRAPS)[(step + place) % len(WRAPS)] for place in range(40)]
            t = ("A -- A " + nested(names, "a") + " " + nested(names, "b")).ljust(1024)
            twice = ("B " + nested(names, "b") + " " + nested(names, "b") + " -- B b").rjust(1024)
            apart = ("B " + nested(names, "a") + " " + nested(names, "b") + " -- B b a b").rjust(1024)
            other = ("B " + nested(names, "a") + " " + nested(names[1:], "b") + " -- B").rjust(1024)
            with Quick():
                self.gives(t, twice, "A -- A a")
                self.gives(t, apart, "A -- A a b a")
                self.gives(t, "A a b -- A".rjust(1024), NOTHING)
                self.none(t, other)


class Spread:
    """Effects at random that have much in common: t gives and u takes what comes of one row, with holes."""

    NAMES = ["a", "b", "c", "d"]

    def __init__(self, start):
        self.random = random.Random(start)

    def pair(self):
        common = self.row(3, 3) + self.row(3, 3)[1:]
        t = (self.row(1, 2), self.loosened(common))
        u = (self.loosened(common), self.row(1, 2))
        return text_of(t), text_of(u)

    def row(self, room, height):
        return (self.random.choice("ABC"),) + tuple(self.item(room) for _ in range(self.random.randrange(height + 1)))

    def item(self, room):
        kind = self.random.choice(["num", "bool", "name", "name", "list", "pair", "effect"][:7 if room else 4])
        if kind == "name":
            return self.random.choice(self.NAMES)
        if kind == "list":
            return ("list", self.item(room - 1))
        if kind == "pair":
            return ("pair", self.item(room - 1), self.item(room - 1))
        if kind == "effect":
            return ("effect", self.row(room - 1, 2), self.row(room - 1, 2))
        return kind

    def loosened(self, row):
        lowest = self.random.randrange(len(row)) if self.random.random() < 0.4 else 0
        return (self.random.choice("ABC"),) + tuple(self.loosened_item(item) for item in row[lowest + 1:])

    def loosened_item(self, item):
        chance = self.random.random()
        if chance < 0.3:
            return self.random.choice(self.NAMES)
        if chance < 0.4:
            return self.item(1)
        if isinstance(item, str):
            return item
        if item[0] == "effect":
            return ("effect", self.loosened(item[1]), self.loosened(item[2]))
        return item[:1] + tuple(self.loosened_item(part) for part in item[1:])


class AtRandom(ThenCase):
    def test_as_by_the_way_of_whole_effects(self):
        found = {0: 0, 1: 0}
        for start in range(3000):
            found[self.as_expected(*Spread(start).pair())] += 1
        self.assertGreater(min(found.values()), 500)

    def test_three_either_way(self):
        found = []
        for start in range(1500):
            t, u = Spread(start).pair()
            v = Spread(start + 100000).pair()[start % 2]
            for texts in [[t, u, v], [v, t, u]]:
                found.append(self.both_ways(texts))
        self.assertGreater(found.count("none"), 500)
        self.assertGreater(len(found) - found.count("none"), 500)

    def test_forms_in_the_place_of_the_effects(self):
        for start in range(300):
            t, u = Spread(start).pair()
            self.answers_all([in_order(t), in_order(u)], then(as_bytes(t), as_bytes(u)))


def instances(effect, rows, items):
    """What comes of an effect when these rows and items are put for its variables, in all ways."""
    names = sorted(set(variables_of(text_of(effect))))
    for chosen in itertools.product(*[rows if one.isupper() else items for one in names]):
        put = dict(zip(names, chosen))
        yield filled(effect[0], put), filled(effect[1], put)


class ByTheDefinition(ThenCase):
    ROWS = [("Z",), ("Z", "num"), ("Z", "bool"), ("Z", "num", "num"), ("Y",)]
    ITEMS = ["num", "bool", ("list", "num")]

    def check(self, t, u):
        """Every r -- s with some row between is an instance of what is answered; with no such row, 1 is answered."""
        answer = then(as_bytes(t), as_bytes(u))
        taken = {}
        for between, above in instances(read(u), self.ROWS, self.ITEMS):
            taken.setdefault(between, set()).add(above)
        found = sorted({text_of((below, above)) for below, between in instances(read(t), self.ROWS, self.ITEMS)
                        for above in taken.get(between, ())})
        if answer == [1]:
            self.assertEqual(found, [], [t, u])
        for text in found[::1 + len(found) // 8]:
            self.assertEqual(has(answer[2:], as_bytes(text)), [1], [t, u, text])
        return len(found)

    def check_between(self, t, u):
        """There is a row m, and r -- m is an instance of t's, m -- s one of u's, where r -- s is what is answered."""
        answer = then(as_bytes(t), as_bytes(u))
        if answer == [1]:
            return False
        found = Joined(t, u)
        self.assertEqual(has(as_bytes(t), as_bytes(text_of((found.below, found.between)))), [1], [t, u])
        self.assertEqual(has(as_bytes(u), as_bytes(text_of((found.between, found.above)))), [1], [t, u])
        whole = as_bytes(text_of((found.below, found.above)))
        self.assertEqual([has(answer[2:], whole), has(whole, answer[2:])], [[1], [1]], [t, u])
        return True

    def test_short_effects(self):
        texts = ["A -- A", "A -- B", "A a -- A", "A -- A a", "A a -- B a", "A a -- A a a", "A a b -- A b a",
                 "A num -- A a", "A a -- A bool", "A num -- A num num", "A list(a) -- A a", "A a -- A list(a)",
                 "A list(a) a -- B", "A -- B a list(a)", "A [A -- B] -- B", "A -- A [B -- B a]", "A a -- B [A -- B]",
                 "A [A -- A a] -- A a", "A [B num -- A] -- B", "A -- B [A a -- B b]", "A pair(a,b) -- A a",
                 "A -- A pair(a,a)", "A pair(a,num) -- B a", "A -- B pair(bool,a)"]
        some, none, between = 0, 0, 0
        for t, u in itertools.product(texts, repeat=2):
            count = self.check(t, u)
            some += count > 0
            none += then(as_bytes(t), as_bytes(u)) == [1]
            between += self.check_between(t, u)
        self.assertGreater(some, 250)
        self.assertGreater(none, 50)
        self.assertGreater(between, 300)

    def test_a_row_between_at_random(self):
        between = sum(self.check_between(*Spread(start).pair()) for start in range(1000))
        self.assertGreater(between, 250)

    def test_what_comes_of_instances_is_an_instance(self):
        both = 0
        for start in range(1500):
            t, u = Spread(start).pair()
            answer = then(as_bytes(t), as_bytes(u))
            other = Spread(start + 200000)
            put = {one: other.row(1, 1) if one.isupper() else other.item(1) for one in "ABCabcd"}
            put.update({one: (one,) if one.isupper() else one for one in "ABCabcd" if other.random.random() < 0.6})
            special = [as_bytes(text_of([filled(row, put) for row in read(text)])) for text in (t, u)]
            narrower = then(*special)
            if answer == [1]:
                self.assertEqual(narrower, [1], [t, u, special])
            elif narrower[0] == 0:
                both += 1
                self.assertEqual(has(answer[2:], narrower[2:]), [1], [t, u, special])
        self.assertGreater(both, 100)


class Refused(RefusesTwo, ThenCase):
    good_answer = [0, 10] + as_bytes("A a b -- A")

    def test_refusals_come_ahead_of_none_and_of_too_heavy(self):
        heavy = tall("num", 119)
        self.answers_all([heavy, "A -- A )"], [-1, 2, 7])
        self.answers_all(["A -- A )", heavy], [-1, 1, 7])
        self.answers_all([heavy.ljust(1025), heavy], [-6])
        self.answers_all([heavy, heavy.ljust(1025)], [-6])
        self.answers_all(["A -- A num", "A bool -- A )"], [-1, 2, 12])
        self.answers_all(["A -- A num )", "A bool -- A"], [-1, 1, 11])
        self.answers_all(["A -- A num", "A bool -- A".ljust(1025)], [-6])
        self.heavy(heavy.ljust(1024), heavy.rjust(1024))
        self.none("A -- A num".ljust(1024), "A bool -- A".rjust(1024))


if __name__ == "__main__":
    unittest.main()
