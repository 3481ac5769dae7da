"""[7], [8] and `is_question` of failsalike.questions."""

import copy
import random
import unittest

from failsalike.facts import Facts
from failsalike.questions import is_question
from tests import chance
from tests.samples import R, VALUES, anything, nested, no_numbers, no_words
from tests.shop import ONE, REFS, TWO, shop
from tests.standin import SCHEMA

I, S = ("i", "item"), ("s", "sale")
X, Y = ("column", "i", "price"), ("column", "s", "count")
TRUE = ("is", ("value", 1), "number")
INNER = ((("k", "item"),), ("less", ("column", "k", "price"), X))
LEAVES = (("less", X, Y), ("most", X, Y), ("same", X, Y), ("is", X, "word"), ("exists", INNER))
TERMS = (X, ("value", 3), ("plus", X, 3), ("only", INNER, X), ("first", INNER, ("column", "k", "name")))


def ask(where=None, told=(X,), order=(), limit=None, refs=REFS):
    return (refs, where, told, order, limit)


class Case(unittest.TestCase):
    def check(self, thing, expected, schema=SCHEMA):
        before = copy.deepcopy(thing)
        for _ in range(2):
            self.assertIs(is_question(schema, thing), expected, repr(thing)[:300])
        self.assertEqual(thing, before)


class Right(Case):
    def test_the_examples(self):
        self.check(ONE, True, shop().schema)
        self.check(TWO, True, shop().schema)

    def test_each_term_and_each_leaf(self):
        for term in TERMS:
            self.check(ask(told=(term,)), True)
            self.check(ask(told=(("plus", ("plus", term, R), -R),)), True)
            self.check(ask(where=("is", term, "nothing")), True)
            self.check(ask(where=("same", ("value", "a"), term)), True)
            self.check(ask(where=term), False)
        for leaf in LEAVES:
            self.check(ask(where=leaf), True)
            self.check(ask(where=("not", leaf)), True)
            self.check(ask(where=("and", TRUE, ("or", leaf, TRUE))), True)
            self.check(ask(told=(leaf,)), False)

    def test_one_to_four_refs(self):
        refs = (I, S, ("j", "item"), ("t", "sale"), ("u", "sale"))
        for many in range(6):
            self.check(ask(refs=refs[:many], told=(("value", 1),)), 1 <= many <= 4)

    def test_one_and_two_inner_refs(self):
        refs = (("k", "item"), ("l", "item"), ("m", "sale"))
        for many in range(4):
            inner = (refs[:many], TRUE)
            self.check(ask(where=("exists", inner)), 1 <= many <= 2)
            self.check(ask(told=(("only", inner, X),)), 1 <= many <= 2)

    def test_one_to_four_told_terms(self):
        for many in range(6):
            self.check(ask(told=(X,) * many), 1 <= many <= 4)

    def test_none_to_four_columns_of_an_order(self):
        for many in range(6):
            self.check(ask(order=(X, Y, X, Y, X)[:many]), many <= 4)

    def test_limits(self):
        for limit in (None, 0, 1, 2, 999, 1000):
            self.check(ask(limit=limit), True)
        for limit in (-1, 1001, R, -R, 10**39, True, False, "5", "a", "", (), [], (5,), [5], {}, {1: 2}, Facts(1)):
            self.check(ask(limit=limit), False)

    def test_values(self):
        for value in VALUES:
            self.check(ask(told=(("value", value),)), True)
        for thing in no_numbers() + [Facts(1), shop()]:
            self.check(ask(told=(("value", thing),)), False)

    def test_what_is_added(self):
        for k in (0, 1, -1, R, -R):
            self.check(ask(told=(("plus", X, k),)), True)
        for k in no_numbers() + [None, "a", Facts(1)]:
            self.check(ask(told=(("plus", X, k),)), False)

    def test_kinds(self):
        for kind in ("nothing", "number", "word"):
            self.check(ask(where=("is", X, kind)), True)
        for kind in anything() + ["words", "None", ("word",), ["word"], Facts(1)]:
            self.check(ask(where=("is", X, kind)), False)

    def test_many_leaves_and_deep_conditions(self):
        deep = TRUE
        for _ in range(60):
            deep = ("and", ("not", deep), TRUE)
        self.check(ask(where=deep), True)


class Aliases(Case):
    def test_twice_in_the_refs(self):
        self.check(ask(refs=(I, I)), False)
        self.check(ask(refs=(I, ("i", "sale")), told=(("value", 1),)), False)
        self.check(ask(refs=(I, S, ("k", "item"), ("s", "sale"))), False)

    def test_twice_with_inner_questions(self):
        def inner(*aliases):
            return (tuple((alias, "item") for alias in aliases), TRUE)

        def exists(*aliases):
            return ("exists", inner(*aliases))

        self.check(ask(where=("and", exists("k", "l"), exists("m"))), True)
        self.check(ask(where=exists("k", "k")), False)
        self.check(ask(where=exists("i")), False)
        self.check(ask(where=exists("k", "s")), False)
        self.check(ask(where=("and", exists("k"), ("not", exists("k")))), False)
        self.check(ask(where=exists("k"), told=(("only", inner("k"), X),)), False)
        self.check(ask(where=exists("k"), told=(("only", inner("l"), X),)), True)
        self.check(ask(told=(X, ("first", inner("k"), X), ("only", inner("k", "l"), X))), False)
        self.check(ask(where=("same", ("only", inner("k"), X), ("plus", ("only", inner("k"), X), 1))), False)
        self.check(ask(told=(("only", inner("s"), X),)), False)

    def test_used_outside_of_their_inner_question(self):
        k = ("column", "k", "price")
        self.check(ask(where=("exists", INNER), told=(k,)), False)
        self.check(ask(told=(("only", INNER, k), k)), False)
        self.check(ask(told=(("only", INNER, k),), order=(k,)), False)
        self.check(ask(where=("and", ("exists", INNER), ("less", k, X))), False)
        other = ((("l", "item"),), ("less", k, X))
        self.check(ask(where=("and", ("exists", INNER), ("exists", other))), False)
        self.check(ask(told=(("only", ((("l", "item"),), TRUE), k),)), False)
        self.check(ask(told=(("only", (INNER[0], TRUE), k),)), True)

    def test_of_the_question_around_within(self):
        inner = ((("k", "item"), ("l", "sale")), ("and", ("same", X, Y), ("less", Y, ("column", "l", "count"))))
        self.check(ask(where=("exists", inner)), True)
        self.check(ask(told=(("first", inner, Y), ("plus", ("value", 1), 1))), True)

    def test_not_there(self):
        for alias in ("k", "item", "price"):
            self.check(ask(told=(("column", alias, "price"),)), False)
        for alias in anything() + [Facts(1), shop()]:
            self.check(ask(told=(("column", alias, "price"),)), False)

    def test_names(self):
        for alias in ("where", "not", "from", "nothing", "abcdefgh", "a"):
            self.check(ask(refs=((alias, "item"),), told=(("column", alias, "name"),)), True)
        for alias in no_words() + [None, 3, -1]:
            self.check(ask(refs=((alias, "item"),), told=(("value", 1),)), False)
            self.check(ask(refs=((alias, "item"),), told=(("column", alias, "name"),)), False)
            self.check(ask(where=("exists", (((alias, "item"),), TRUE))), False)


class TablesAndColumns(Case):
    def test_tables_not_there(self):
        for name in anything() + ["items", "price", ["item"], ("item",), Facts(1), shop()]:
            self.check(ask(refs=(("i", name),), told=(("value", 1),)), False)
            self.check(ask(where=("exists", ((("k", name),), TRUE))), False)
        self.check(ONE, False, ())
        self.check(ONE, False, SCHEMA[:1])

    def test_columns_not_there(self):
        for name in anything() + ["count", "item", "i", ["price"], ("price",), Facts(1), shop()]:
            self.check(ask(told=(("column", "i", name),)), False)
            self.check(ask(order=(("column", "i", name),)), False)
        self.check(ask(told=(("column", "s", "name"), ("column", "s", "count"))), True)
        self.check(ask(told=(("column", "s", "price"),)), False)

    def test_one_table_several_times(self):
        refs = tuple((alias, "item") for alias in "abcd")
        self.check(ask(refs=refs, told=tuple(("column", alias, "price") for alias in "dcba")), True)


class InnerWithin(Case):
    def test_none_within_one(self):
        second = ((("l", "item"),), TRUE)
        within = (("exists", second), ("is", ("only", second, X), "word"), ("less", ("plus", ("first", second, X), 1), X))
        for condition in within:
            self.check(ask(where=condition), True)
            for wrapped in (condition, ("not", condition), ("and", TRUE, ("or", condition, TRUE))):
                self.check(ask(where=("exists", (INNER[0], wrapped))), False)
                self.check(ask(told=(("only", (INNER[0], wrapped), X),)), False)
                self.check(ask(told=(("first", (INNER[0], wrapped), X),)), False)
        for term in (("only", second, X), ("plus", ("first", second, X), 1)):
            self.check(ask(told=(term,)), True)
            self.check(ask(told=(("only", INNER, term),)), False)
            self.check(ask(told=(("first", INNER, term),)), False)

    def test_a_condition_is_never_none(self):
        self.check(ask(where=None), True)
        self.check(ask(where=("exists", (INNER[0], None))), False)
        self.check(ask(told=(("only", (INNER[0], None), X),)), False)

    def test_forms(self):
        for inner in ((), INNER[:1], (*INNER, None), list(INNER), (list(INNER[0]), TRUE), (("k", "item"), TRUE), None, "k"):
            self.check(ask(where=("exists", inner)), False)
            self.check(ask(told=(("only", inner, X),)), False)
            self.check(ask(told=(("first", inner, X),)), False)


def parts(thing, place=()):
    """The places of all tuples in a tuple."""
    found = [place]
    for at, part in enumerate(thing):
        if isinstance(part, tuple):
            found += parts(part, (*place, at))
    return found


def changed(thing, place, change):
    """The thing with a part changed."""
    if not place:
        return change(thing)
    at = place[0]
    return thing[:at] + (changed(thing[at], place[1:], change),) + thing[at + 1 :]


BIG = (
    REFS,
    ("and", ("or", LEAVES[0], ("not", LEAVES[4])), ("is", ("plus", Y, 1), "number")),
    (X, ("only", ((("l", "item"), ("m", "sale")), LEAVES[2]), ("plus", ("column", "m", "count"), -2))),
    (Y, X),
    9,
)


class WrongForms(Case):
    def test_lists_for_tuples(self):
        self.check(BIG, True)
        for place in parts(BIG):
            self.check(changed(BIG, place, list), False)

    def test_parts_left_out_doubled_and_too_many(self):
        for place in parts(BIG):
            part = changed_part(BIG, place)
            for at in range(len(part)):
                left_out = changed(BIG, place, lambda one: one[:at] + one[at + 1 :])
                self.check(left_out, place in ((3,), (2,), (2, 1, 1, 0)) and self.right(left_out))
                doubled = changed(BIG, place, lambda one: one[: at + 1] + one[at:])
                self.check(doubled, place in ((2,), (3,)) and self.right(doubled))
            self.check(changed(BIG, place, lambda one: (*one, None)), False)
            self.check(changed(BIG, place, lambda one: (one,)), False)

    def right(self, question):
        """Whether lists of terms and refs are still right when one item is left out or doubled."""
        inner = [term for term in question[2] if term[0] == "only"]
        if any(("m", "sale") not in term[1][0] for term in inner):
            return False
        return len(inner) < 2

    def test_exchanged(self):
        for place in parts(BIG):
            part = changed_part(BIG, place)
            for at in range(len(part) - 1):
                if part[0] in ("and", "or", "same", "less") and at == 1 or place in ((0,), (2,), (3,), (2, 1, 1, 0)):
                    continue
                if part[at] == part[at + 1]:
                    continue
                moved = changed(BIG, place, lambda one: (*one[:at], one[at + 1], one[at], *one[at + 2 :]))
                self.check(moved, False)

    def test_any_value_in_the_place_of_a_tuple(self):
        for place in parts(BIG):
            for thing in anything() + [nested(18), {"refs": 1}, Facts(1), shop(), SCHEMA]:
                got = changed(BIG, place, lambda one: thing)
                self.check(got, place == (1,) and thing is None or place == (3,) and thing == () and type(thing) is tuple)

    def test_other_words(self):
        for word in ("equal", "Less", "AND", "", "columns", "values", "add", None, 3, ("and",), ["and"]):
            for size in range(1, 5):
                self.check(ask(where=(word, TRUE, TRUE, TRUE)[:size]), False)
                self.check(ask(told=((word, X, X, X)[:size],)), False)

    def test_terms_and_conditions_exchanged(self):
        for term in TERMS:
            for condition in (("not", term), ("and", term, TRUE), ("or", TRUE, term)):
                self.check(ask(where=condition), False)
            self.check(ask(where=("exists", (INNER[0], term))), False)
        for leaf in LEAVES:
            for word in ("less", "most", "same"):
                self.check(ask(where=(word, leaf, X)), False)
                self.check(ask(where=(word, X, leaf)), False)
            self.check(ask(where=("is", leaf, "word")), False)
            self.check(ask(told=(("plus", leaf, 1),)), False)
            self.check(ask(told=(("only", INNER, leaf),)), False)

    def test_orders_are_of_columns_alone(self):
        for term in TERMS[1:] + LEAVES:
            self.check(ask(order=(term,)), False)
            self.check(ask(order=(X, term)), False)
        self.check(ask(order=(X, X, Y)), True)
        self.check(ask(where=("exists", INNER), order=(("column", "k", "price"),)), False)

    def test_any_value(self):
        for thing in anything() + [Facts(1), shop(), SCHEMA, nested(20), (nested(18),) * 5, REFS, INNER, X, TRUE]:
            self.check(thing, False)

    def test_parameters_by_name(self):
        self.assertIs(is_question(thing=ONE, schema=SCHEMA), True)


def changed_part(thing, place):
    for at in place:
        thing = thing[at]
    return thing


class ByChance(Case):
    def test_questions(self):
        rng = random.Random(3)
        for _ in range(500):
            schema = chance.some_schema(rng)
            question = chance.some_question(rng, schema, most_refs=4)
            self.check(question, True, schema)
            self.check(question, True, chance.all_kinds(schema))

    def test_a_part_in_the_place_of_another_one(self):
        rng = random.Random(4)
        for _ in range(300):
            schema = chance.some_schema(rng)
            question = chance.some_question(rng, schema)
            places = parts(question)
            one, other = rng.choice(places), rng.choice(places)
            moved = changed_part(question, other)
            self.assertIn(is_question(schema, changed(question, one, lambda _: moved)), (True, False))
