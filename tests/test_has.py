"""What an effect's instances are. Promise 1 holds of both texts of has as of judge's."""

import contextlib
import io
import itertools
import unittest

from stackeffects.effects import form, has
from tests.helper import (BLANKS, BUILT_IN_EFFECTS, WRAPS, CallCase, Canonical, Plain, RefusesTwo, Tree, as_bytes,
                          filled, name, nested, text_of, tokens)

ITEMS = ["num", "bool", "a", "b", "list(num)", "list(a)", "pair(num,bool)", "pair(a,b)", "[A -- B]", "[A a -- A num]"]


class HasCase(CallCase):
    call = staticmethod(has)

    def yes(self, t, u):
        self.answers_all([t, u], [1])

    def no(self, t, u):
        self.answers_all([t, u], [0])

    def only_one_way(self, t, u):
        self.yes(t, u)
        self.no(u, t)

    def both_ways(self, t, u):
        self.yes(t, u)
        self.yes(u, t)

    def neither_way(self, t, u):
        self.no(t, u)
        self.no(u, t)


class Itself(HasCase):
    def test_an_effect_is_its_own_instance(self):
        for text in BUILT_IN_EFFECTS + ["A -- A", "A -- B", "A [A -- B [C -- D a]] pair(a,list(b)) -- D"]:
            self.yes(text, text)
            given = as_bytes(text)
            self.answers_lists([given, given], [1])

    def test_other_names(self):
        self.both_ways("A -- A", "Z -- Z")
        self.both_ways("A -- B", "B -- A")
        self.both_ways("A a -- A", "A b -- A")
        self.both_ways("A a b -- A b a", "B b a -- B a b")
        self.both_ways("A a b -- B b a", "B1 b1 a1 -- A1 a1 b1")
        self.both_ways("A a a1 a11 -- A26", "C z999 z99 z9 -- A2")
        self.both_ways("A [B a -- C] pair(a,b) -- C list(b)", "C [A b -- B] pair(b,a) -- B list(a)")
        for text in BUILT_IN_EFFECTS:
            self.both_ways(text, self.renamed(text))

    def renamed(self, text):
        new = {"A": "D", "B": "A", "C": "Z99", "D": "C", "a": "c", "b": "a", "c": "b7"}
        return " ".join(new.get(token, token) for token in tokens(text))

    def test_the_same_names_have_nothing_to_do_with_one_another(self):
        self.yes("A a -- A b", "B b -- B a")
        self.yes("A a -- A b", "A b -- A b")
        self.yes("A a -- A a", "A list(a) -- A list(a)")
        self.yes("A a -- B a", "B pair(a,b) -- A pair(a,b)")
        self.yes("A a -- B b", "B b -- B b")
        self.yes("A -- A", "A a -- A a")
        self.yes("A -- B", "B num -- A bool")
        self.no("A a -- A a", "A a -- A b")
        self.no("A -- A", "A -- B")
        self.no("A -- A", "A -- A a")

    def test_blanks_make_no_difference(self):
        pairs = [("A a -- A a a", "A num -- A num num", 1), ("A a -- A a a", "A num -- A num bool", 0),
                 ("A [A -- B] -- B", "A pair(a,num) [A pair(a,num) -- C] -- C", 1),
                 ("A [A -- B] list(a) -- B", "A [A -- B] list([C -- D]) -- A", 0)]
        for t, u, expected in pairs:
            for gap, other in itertools.product(list(BLANKS) + [BLANKS], repeat=2):
                spread_t = gap + gap.join(tokens(t)) + gap
                spread_u = other + other.join(tokens(u)) + other
                self.answers_all([spread_t, spread_u], [expected])
                self.answers_all([t, spread_u], [expected])
                self.answers_all([spread_t, u], [expected])
            self.both_ways(t, t.replace(", ", ",").replace(" [", "[").replace(" -- ", "--").replace("] ", "]"))

    def test_prints_nothing(self):
        out = io.StringIO()
        with contextlib.redirect_stdout(out), contextlib.redirect_stderr(out):
            has(as_bytes("A -- A"), as_bytes("A a -- A a"))
            has(as_bytes("A -- A"), as_bytes("A a -- A"))
            has(as_bytes("A -- A"), as_bytes("A a --"))
        self.assertEqual(out.getvalue(), "")

    def test_answers_are_not_shared(self):
        for t, u in [("A -- A", "A -- A"), ("A -- A", "A -- B"), ("A", "A"), ("A -- A", "A"), ("x" * 1025, "A")]:
            first = has(as_bytes(t), as_bytes(u))
            expected = list(first)
            first.append(7)
            self.assertEqual(has(as_bytes(t), as_bytes(u)), expected)

    def test_nothing_is_kept_between_calls(self):
        for _ in range(2):
            self.yes("A a -- A", "A num -- A")
            self.yes("A a -- A", "B bool -- B")
            self.no("A a -- A", "B bool -- A")
            self.yes("A a -- A", "A num list(a) -- A num")


class Rows(HasCase):
    def test_a_row_is_put_for_a_row_variable(self):
        self.yes("A -- A", "B -- B")
        for item in ITEMS:
            self.only_one_way("A -- A", "A " + item + " -- A " + item)
            self.only_one_way("A -- B", "A " + item + " -- B")
            self.only_one_way("A -- B", "A -- A " + item)
        self.only_one_way("A -- A", "A num bool a -- A num bool a")
        self.only_one_way("A -- B", "A num bool a -- C list(a) num")
        self.only_one_way("A -- B", "A -- A")
        self.no("A -- A", "A num -- B num")
        self.no("A -- A", "A num bool -- A bool num")
        self.no("A -- A", "A num -- A num num")

    def test_the_uppermost_items_stand_above_the_variable(self):
        self.yes("A num -- A", "A bool num -- A bool")
        self.no("A num -- A", "A num bool -- A num")
        self.no("A num -- A", "A num bool -- A bool")
        self.yes("A a b -- A b a", "A num bool list(a) -- A num list(a) bool")
        self.no("A a b -- A b a", "A num bool list(a) -- A bool num list(a)")
        self.no("A a b -- A b a", "A num bool list(a) -- A list(a) bool num")
        self.yes("A a -- B a", "A num bool -- B bool")
        self.no("A a -- B a", "A num bool -- B num")
        self.yes("A a -- A", "A a b c d e f -- A a b c d e")
        self.no("A a -- A", "A a b c d e f -- A b c d e f")
        self.yes("A bool bool -- A bool", "A num num bool bool -- A num num bool")
        self.no("A bool bool -- A bool", "A bool bool num num -- A bool num num")

    def test_rows_that_are_too_short(self):
        self.only_one_way("A -- A", "A a -- A a")
        self.only_one_way("A -- B", "A a -- B")
        self.only_one_way("A a -- B", "A a b -- B")
        self.no("A a b -- A", "A num -- A")
        self.no("A a b -- A", "A -- A")
        self.no("A num num -- A num", "A num -- A")
        self.no("A -- B a", "A -- B")
        self.no("A -- B a b c", "A -- B num num")
        self.no("A [A a -- A] -- A", "A [A -- A] -- A")
        self.no("A [A -- A a] -- A", "A [A num -- A] -- A num")
        self.no("A list([B num -- B]) -- A", "A list([B -- B]) -- A")

    def test_rows_within_effects(self):
        apply, dip = "A [A -- B] -- B", "A a [A -- B] -- B a"
        self.yes(apply, "A num num [A num num -- A num] -- A num")
        self.yes(apply, "A [A -- A num] -- A num")
        self.yes(apply, "A [A -- A] -- A")
        self.no(apply, "A num num [A num num -- A num] -- A bool")
        self.no(apply, "A num num [A num -- A num] -- A num")
        self.no(apply, "A num [A num num -- A num] -- A num")
        self.no(apply, "A [B -- A] -- A")
        self.yes(dip, "A num bool [A num -- C a] -- C a bool")
        self.no(dip, "A num bool [A num -- C a] -- C bool a")
        self.no(dip, "A num bool [A bool -- C a] -- C a num")
        compose = "A [B -- C] [C -- D] -- A [B -- D]"
        self.yes(compose, "A [A -- A] [A -- A] -- A [A -- A]")
        self.yes(compose, "A num [B a -- A b] [A b -- C] -- A num [B a -- C]")
        self.no(compose, "A [B -- C a] [C -- D] -- A [B -- D]")
        self.no(compose, "A [B -- C] [C -- D] -- A [B -- C]")

    def test_a_row_is_not_the_same_as_its_items_elsewhere(self):
        self.no("A [A -- B] -- B", "A num [C num -- B] -- B")
        self.no("A [A -- B] -- B", "A num [A bool -- B] -- B")
        self.no("A [A -- A] -- A", "A num [A num -- A] -- A num")


class Items(HasCase):
    def test_every_item_is_put_for_a_variable(self):
        for item in ITEMS:
            self.yes("A a -- A", "A " + item + " -- A")
            self.yes("A -- A a", "A -- A " + item)
            self.yes("A a -- A a", "A " + item + " -- A " + item)
            self.yes("A list(a) -- A", "A list(" + item + ") -- A")
            self.yes("A pair(a,b) -- A", "A pair(" + item + ",num) -- A")
            self.yes("A pair(a,b) -- A", "A pair(num," + item + ") -- A")
            self.yes("A pair(a,a) -- A", "A pair(" + item + "," + item + ") -- A")
            self.yes("A [A a -- A] -- A", "A [A " + item + " -- A] -- A")
            self.yes("A [A -- A a] -- A", "A [A -- A " + item + "] -- A")

    def test_what_is_no_variable_takes_its_own_kind_alone(self):
        kinds = ["num", "bool", "list(a)", "pair(a,b)", "[A -- B]"]
        for kind, item in itertools.product(kinds, ITEMS):
            same = kind[:3] == item[:3] or (kind[0] == "[" and item[0] == "[")
            # The row's own variable has another name, so that nothing but the kind decides.
            self.answers_all(["C " + kind + " -- D", "C " + item + " -- D"], [1 if same else 0])
            self.answers_all(["C -- D list(" + kind + ")", "C -- D list(" + item + ")"], [1 if same else 0])

    def test_variables_of_u_stand_for_themselves(self):
        for item in ["num", "bool", "list(a)", "pair(a,b)", "[A -- B]"]:
            self.only_one_way("A a -- B", "A " + item + " -- B")
            self.only_one_way("A list(a) -- B", "A list(" + item + ") -- B")
        self.only_one_way("A a b -- A", "A a a -- A")
        self.only_one_way("A -- B", "A -- A")
        self.only_one_way("A [B -- C] -- D", "A [A -- A] -- A")
        self.neither_way("A a num -- A", "A num a -- A")
        self.neither_way("A a a b -- A", "A a b b -- A")
        self.neither_way("A a -- A num", "A num -- A a")
        self.neither_way("A a -- A", "A -- A")
        self.no("A num -- A", "A a -- A")
        self.no("A -- A", "A a -- B")

    def test_no_item_holds_itself(self):
        self.no("A a list(a) -- A", "A list(a) list(a) -- A")
        self.no("A a list(a) -- A", "A a a -- A")
        self.yes("A a list(a) -- A", "A list(a) list(list(a)) -- A")
        self.yes("A a b -- A", "A a list(a) -- A")
        self.yes("A a b -- A", "A b list(a) -- A")

    def test_built_in_effects_that_are_instances_of_others(self):
        drop = "A a -- A"
        for t, u in itertools.permutations(BUILT_IN_EFFECTS, 2):
            # What is left of two numbers, or of two truths, is as if the upper one had been dropped.
            expected = t == drop and u in ["A num num -- A num", "A bool bool -- A bool"]
            self.answers_all([t, u], [1 if expected else 0])
        for text in BUILT_IN_EFFECTS:
            self.yes("A -- B", text)
            self.yes("Z1 -- Y1", text)


class SeveralPlaces(HasCase):
    def test_items(self):
        for item, other in itertools.product(ITEMS, repeat=2):
            expected = [1 if item == other else 0]
            self.answers_all(["A a a -- B", "A " + item + " " + other + " -- B"], expected)
            self.answers_all(["A a -- B a", "A " + item + " -- B " + other], expected)
            self.answers_all(["A list(a) -- B a", "A list(" + item + ") -- B " + other], expected)
            self.answers_all(["A pair(a,a) -- B", "A pair(" + item + "," + other + ") -- B"], expected)
            self.answers_all(["A [C a -- D] -- B a", "A [C " + item + " -- D] -- B " + other], expected)
            self.yes("A a b -- B", "A " + item + " " + other + " -- B")

    def test_rows(self):
        rows = ["A", "B", "A num", "B num", "A bool", "A num num", "A num bool", "A a", "A b", "A list(a)",
                "A [A -- B]"]
        for row, other in itertools.product(rows, repeat=2):
            expected = [1 if row == other else 0]
            self.answers_all(["A -- A", row + " -- " + other], expected)
            self.answers_all(["A [A -- B] -- C", row + " [" + other + " -- B] -- C"], expected)
            self.answers_all(["A [B -- B] -- C", "C [" + row + " -- " + other + "] -- D"], expected)
            self.answers_all(["A num -- A bool", row + " num -- " + other + " bool"], expected)
            self.yes("A -- B", row + " -- " + other)

    def test_met_first_deep_within(self):
        deep = "A [B pair(list(a),[C -- D b]) -- E] -- D pair(a,b)"
        for row, first, second in itertools.product(["D", "D num"], ["num", "list(c)"], ["bool", "[A -- A]"]):
            inner = "A [B pair(list(" + first + "),[C -- " + row + " " + second + "]) -- E] -- "
            self.yes(deep, inner + row + " pair(" + first + "," + second + ")")
            self.no(deep, inner + row + " pair(" + second + "," + first + ")")
            self.no(deep, inner + row + " bool pair(" + first + "," + second + ")")
            self.no(deep, inner + "A pair(" + first + "," + second + ")")
            self.no(deep, inner + row + " pair(" + first + ",list(" + second + "))")

    def test_met_first_outside(self):
        text = "A a -- B [C [D list([A -- C a]) -- D] -- B]"
        self.yes(text, "A num -- B [C [D list([A -- C num]) -- D] -- B]")
        self.yes(text, "A x [Y -- Z] -- B num [C [D list([A x -- C [Y -- Z]]) -- D] -- B num]")
        self.no(text, "A num -- B [C [D list([A -- C bool]) -- D] -- B]")
        self.no(text, "A x [Y -- Z] -- B num [C [D list([A -- C [Y -- Z]]) -- D] -- B num]")
        self.no(text, "A x [Y -- Z] -- B num [C [D list([A x -- C [Z -- Y]]) -- D] -- B num]")
        self.no(text, "A x [Y -- Z] -- B num [C [D list([A x -- C [Y -- Z]]) -- D] -- B]")

    def test_met_first_on_the_right_or_on_the_left(self):
        self.yes("A -- B list(list(a)) [A a -- B]", "C num -- D list(list(bool)) [C num bool -- D]")
        self.no("A -- B list(list(a)) [A a -- B]", "C num -- D list(list(bool)) [C num num -- D]")
        self.no("A -- B list(list(a)) [A a -- B]", "C num -- D list(list(bool)) [C bool -- D]")
        self.yes("A [A a -- B] list(list(a)) -- B", "C num [C num bool -- D] list(list(bool)) -- D")
        self.no("A [A a -- B] list(list(a)) -- B", "C num [C num bool -- D] list(bool) -- D")
        self.no("A [A a -- B] list(list(a)) -- B", "C num [C num list(bool) -- D] list(list(bool)) -- D")


def found_by_trying(t, u):
    """The words of the document: tries all rows and items within u for the variables of t."""
    rows, items = set(), set()
    for row in u:
        gather(row, rows, items)
    row_names, item_names = set(), set()
    for row in t:
        gather_names(row, row_names, item_names)
    row_names, item_names = sorted(row_names), sorted(item_names)
    for some_rows in itertools.product(rows, repeat=len(row_names)):
        for some_items in itertools.product(items, repeat=len(item_names)):
            put = dict(zip(row_names + item_names, some_rows + some_items))
            if tuple(filled(row, put) for row in t) == u:
                return True
    return False


def gather(row, rows, items):
    for count in range(1, len(row) + 1):
        rows.add(row[:count])
    for item in row[1:]:
        gather_item(item, rows, items)


def gather_item(item, rows, items):
    items.add(item)
    if item[0] == "effect":
        for row in item[1:]:
            gather(row, rows, items)
    elif isinstance(item, tuple):
        for part in item[1:]:
            gather_item(part, rows, items)


def gather_names(row, row_names, item_names):
    rows, items = set(), set()
    gather(row, rows, items)
    row_names.update(one[0] for one in rows)
    item_names.update(item for item in items if item in ("a", "b"))


class ByTheDefinition(HasCase):
    def compare(self, general, special):
        counts = [0, 0]
        for t, u in itertools.product(general, special):
            expected = 1 if found_by_trying(t, u) else 0
            counts[expected] += 1
            self.assertEqual(has(as_bytes(text_of(t)), as_bytes(text_of(u))), [expected], [text_of(t), text_of(u)])
        return counts

    def test_all_short_effects(self):
        items = ["num", "a", "b", ("list", "a"), ("list", "num")]
        above = [()] + [(item,) for item in items]
        effects = [(("A",) + left, (row,) + right) for left in above for row in "AB" for right in above]
        counts = self.compare(effects, effects)
        self.assertGreater(min(counts), 400)

    def test_longer_rows(self):
        tall = [("A",) + above for count in range(4) for above in itertools.product(["num", "a", "b"], repeat=count)]
        effects = [(row, ("A",)) for row in tall] + [(row, ("B",) + row[1:2]) for row in tall]
        counts = self.compare(effects, effects)
        self.assertGreater(min(counts), 400)

    def test_pairs_and_effects_within(self):
        holders = [("pair", first, second) for first in ["a", "num"] for second in ["a", "b", ("list", "a")]]
        lefts = [("A",), ("A", "a"), ("A", "num"), ("A", "a", "b")]
        holders += [("effect", left, (right,)) for left in lefts for right in "AB"]
        effects = [(("A", holder), row) for holder in holders for row in [("A",), ("B",), ("A", "a"), ("B", holder)]]
        counts = self.compare(effects, effects)
        self.assertGreater(min(counts), 150)


class Filler(Plain):
    """Writes an effect with a text put for each variable, and another one at the first place of one of them."""

    def __init__(self, put, changed=None, other=None):
        Plain.__init__(self)
        self.put = put
        self.changed = changed
        self.other = other

    def variable(self, known, first, text):
        if text == self.changed:
            self.changed = None
            return self.other
        return self.put[text]


class AtRandom(HasCase):
    def made(self, start):
        """A tree, an effect of its variables, and texts to be put for them."""
        tree = Tree(start)
        effect = tree.effect(4)
        other = Tree(start + 10000)
        put = {one: Plain().row(other.row(1)) for one in tree.rows}
        put.update({one: Plain().item(other.item(2)) for one in tree.items})
        return tree, effect, put

    def test_what_comes_of_an_effect_is_its_instance(self):
        taken = 0
        for start in range(500):
            tree, effect, put = self.made(start)
            t, u = Plain().effect(effect), Filler(put).effect(effect)
            if max(len(t), len(u)) <= 1024:
                taken += 1
                self.yes(t, u)
                self.yes("A -- B", u)
        self.assertGreater(taken, 250)

    def test_one_place_of_several_that_differs(self):
        taken = 0
        for start in range(500):
            tree, effect, put = self.made(start)
            t = Plain().effect(effect)
            parts = tokens(t)
            again = [token for token in parts if token in put and parts.count(token) > 1]
            if not again or len(t) > 1000:
                continue
            apart = "A5" if again[0] in tree.rows else "a5"
            self.assertNotIn(apart, tree.rows + tree.items)
            parts[parts.index(again[0])] = apart
            looser = " ".join(parts)
            u = Filler(put, again[0], "Z5 bool bool" if apart == "A5" else "pair(bool,bool)").effect(effect)
            if max(len(looser), len(u)) <= 1024:
                taken += 1
                self.yes(looser, u)
                self.no(t, u)
                self.only_one_way(looser, t)
        self.assertGreater(taken, 200)

    def test_both_ways_just_where_the_forms_are_the_same(self):
        same = 0
        texts = [as_bytes(Plain().effect(Tree(start).effect(1 + start % 2))) for start in range(120)]
        for t, u in itertools.product(texts, repeat=2):
            both = has(t, u) == [1] and has(u, t) == [1]
            self.assertEqual(both, form(t) == form(u), [bytes(t), bytes(u)])
            same += both
        self.assertGreater(same, 200)

    def test_an_effect_and_its_form(self):
        for start in range(200):
            effect = Tree(start).effect(4)
            t, u = Plain().effect(effect), Canonical().effect(effect)
            if len(t) <= 1024:
                self.both_ways(t, u)

    def test_an_instance_of_an_instance_is_one(self):
        met = 0
        texts = [as_bytes(Plain().effect(Tree(start).effect(1 + start % 2))) for start in range(60)]
        found = {(j, k): has(texts[j], texts[k]) == [1] for j in range(60) for k in range(60)}
        for j, k, m in itertools.product(range(60), repeat=3):
            if found[j, k] and found[k, m]:
                met += 1
                self.assertTrue(found[j, m])
        self.assertGreater(met, 500)


class Large(HasCase):
    def test_rows_as_long_as_can_be(self):
        many = "A" + " a" * 509 + " -- A"
        self.assertEqual(len(many), 1024)
        self.yes(many, many)
        self.yes("A -- B", many)
        self.yes("A a -- B", many)
        self.no("A -- A", many)
        self.no("A a -- A", many)
        self.no(many, "A" + " a" * 508 + " -- A")
        self.no(many, "A" + " a" * 508 + " b -- A")
        self.no(many, "A b" + " a" * 508 + " -- A")
        self.only_one_way("A" + " a" * 508 + " -- B", many)
        half = "A" + " a" * 254 + " -- A" + " a" * 254
        self.yes("A -- A", half)
        self.yes("A a -- A a", half)
        self.no("A -- A", half + " a")
        self.yes("A -- A a", "A" + " a" * 254 + " -- A" + " a" * 255)
        self.no("A -- A a a", "A" + " a" * 254 + " -- A" + " a" * 255)

    def test_many_variables(self):
        different = "A " + " ".join(name("a", number) for number in range(250)) + " -- A"
        same = "A" + " a" * 250 + " -- A"
        self.assertLessEqual(len(different), 1024)
        self.only_one_way(different, same)
        turned = "A " + " ".join(name("a", number) for number in reversed(range(250))) + " -- A"
        self.both_ways(different, turned)
        self.only_one_way(different, "A" + " list(a)" * 2 + " num" * 4 + " a" * 244 + " -- A")

    def test_many_effects_within(self):
        many = "A" + "[A--A]a" * 145 + " a a--A"
        self.yes(many, many + " ")
        self.no(many, many[:-1] + "B")
        self.no(many, many.replace("[A--A]a", "[A--A]b", 1))
        apart = "A" + "".join("[" + name("A", number) + "--A]" for number in range(120)) + "--A"
        same = "A" + "[A--A]" * 120 + "--A"
        self.only_one_way(apart, same)

    def test_40_deep(self):
        for wrap in WRAPS:
            names = [wrap] * 40
            text = "A " + nested(names) + " -- A"
            self.yes(text, text)
            self.yes("A a -- A", text)
            self.only_one_way("A " + nested(names, "a") + " -- A", text)
            self.only_one_way("A " + nested(names[:39], "a") + " -- A", text)
            self.no("A " + nested(names, "bool") + " -- A", text)
            self.no(text, "A " + nested(names[:39]) + " -- A")
            self.yes("A a -- A a", "A " + nested(names) + " -- A " + nested(names))
            self.no("A a -- A a", "A " + nested(names) + " -- A " + nested(names, "bool"))
            self.no("A a -- A a", "A " + nested(names, "a") + " -- A " + nested(names, "b"))

    def test_40_deep_and_1024_bytes(self):
        for step in range(len(WRAPS)):
            names = [list(WRAPS)[(step + place) % len(WRAPS)] for place in range(40)]
            deep = "A " + nested(names, "a") + " " + nested(names, "b") + " -- A"
            self.assertLessEqual(len(deep), 1024)
            t = deep.ljust(1024)
            self.yes(t, t)
            self.yes(t, deep.rjust(1024))
            self.only_one_way(t, ("A " + nested(names, "a") + " " + nested(names, "a") + " -- A").rjust(1024))
            self.only_one_way(t, ("A " + nested(names, "num") + " " + nested(names, "a") + " -- A").rjust(1024))
            self.only_one_way("A a b -- A".rjust(1024), t)
            self.no("A a a -- A".rjust(1024), t)

    def test_a_row_found_again_40_deep(self):
        names = ["effect, right"] * 39
        t = "A " + nested(names, "[A -- B]") + " -- B"
        for row in ["C", "C num", "C b num bool"]:
            self.yes(t, t.replace("B", row))
            self.no(t, "A " + nested(names, "[A -- " + row + "]") + " -- D")
            self.no(t, "A " + nested(names, "[A -- " + row + "]") + " -- " + row + " num")
        taller = t.replace("A", "A num")
        self.only_one_way(t, taller)
        self.no(t, taller.replace("[A num -- B]", "[A -- B]"))
        self.no(t, taller.replace("[A num -- B]", "[A bool -- B]"))


class Refused(RefusesTwo, HasCase):
    good_answer = [1]


if __name__ == "__main__":
    unittest.main()
