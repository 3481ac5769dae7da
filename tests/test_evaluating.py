"""[7], [9] and the functions of failsalike.evaluating."""

import copy
import random
import unittest
from itertools import permutations, product

from failsalike.errors import Failed
from failsalike.evaluating import condition_holds, term_value
from failsalike.stores import Store
from tests import chance
from tests.oracle import Oracle
from tests.samples import R, VALUES
from tests.shop import CHEAP, NAME, PRICE, SOLD, shop

KINDS = ("nothing", "number", "word")
OF_KIND = {"nothing": (None,), "number": (-R, -1, 0, 1, 2, R), "word": ("a", "b", "cup")}
SOME = [value for values in OF_KIND.values() for value in values]
TRUE, FALSE = ("is", ("value", 1), "number"), ("is", ("value", 1), "word")
# A condition that fails with "kind", and one with "nothing".
BAD, NONE = ("less", ("value", "a"), ("value", 1)), ("same", ("value", None), ("value", 1))


def v(value):
    return ("value", value)


def table(*rows, columns=("x", "y")):
    """A store with a table t whose columns take everything."""
    store = Store()
    store.make("t", tuple((name, KINDS) for name in columns))
    for row in rows:
        store.put("t", *row)
    return store


class Case(unittest.TestCase):
    def same(self, store, bound, part, expected, place=()):
        """What is evaluated is this, twice, and nothing that is passed changes."""
        call = condition_holds if part[0] in ("less", "most", "same", "is", "exists", "not", "and", "or") else term_value
        before, passed = store.copy(), copy.deepcopy((bound, part))
        for _ in range(2):
            got = call(store, bound, part, place)
            self.assertEqual((got, got.__class__), (expected, expected.__class__), part)
        self.assertEqual((store, (bound, part)), (before, passed))

    def fails(self, store, bound, part, word, place, numbers, start=None):
        """The evaluation fails so; places begin with the one that is passed, or with none."""
        call = condition_holds if part[0] in ("less", "most", "same", "is", "exists", "not", "and", "or") else term_value
        before = store.copy()
        more = () if start is None else (start,)
        with self.assertRaises(Failed) as caught:
            call(store, bound, part, *more)
        failure = caught.exception
        self.assertEqual((failure.word, failure.place, failure.numbers), (word, place, numbers), part)
        self.assertEqual(store, before)


class Terms(Case):
    def test_columns(self):
        store = table(*product(SOME[:4], SOME[6:]))
        for number, (x, y) in store.rows("t"):
            self.same(store, (("a", "t", number),), ("column", "a", "x"), x)
            self.same(store, (("a", "t", number),), ("column", "a", "y"), y)

    def test_columns_behind_rows_taken_out(self):
        store = table((1, "a"), (2, "b"), (3, "c"))
        store.take("t", 0)
        self.same(store, (("a", "t", 2),), ("column", "a", "y"), "c")

    def test_values(self):
        for value in VALUES:
            self.same(Store(), (), v(value), value)

    def test_sums(self):
        for value, k in product((0, 1, -1, 5, R, -R, R - 1), (0, 1, -1, R, -R, 2)):
            term = ("plus", v(value), k)
            if -R <= value + k <= R:
                self.same(Store(), (), term, value + k)
            else:
                self.fails(Store(), (), term, "range", (), ())

    def test_sums_of_no_numbers(self):
        for value in (None, "a", "z"):
            for k in (0, 5, R, -R):
                self.fails(Store(), (), ("plus", v(value), k), "kind", (), ())

    def test_sums_four_deep(self):
        def deep(value, *ks):
            term = v(value)
            for k in ks:
                term = ("plus", term, k)
            return term

        self.same(Store(), (), deep(R, -R, -R, R, R), R)
        self.same(Store(), (), deep(3, 1, 2, 3, -20), -11)
        self.fails(Store(), (), deep(R, -R, -R, -1, R), "range", (1,), ())
        self.fails(Store(), (), deep(R, 1, -1, -1, -1), "range", (1, 1, 1), ())
        self.fails(Store(), (), deep(R, 0, 0, 0, 1), "range", (), ())
        self.fails(Store(), (), deep("a", 1, 1, 1, 1), "kind", (5, 1, 1, 1), (), (5,))
        self.fails(Store(), (), deep(0, -R, -1, 5, 5), "range", (2, 3, 1, 1), (), (2, 3))

    def test_numbers_of_failures_are_those_bound_in_their_order(self):
        store = table((1, "a"), ("b", 2), (None, 3))
        triples = (("a", "t", 1), ("b", "t", 0), ("c", "t", 2))
        for bound in permutations(triples):
            numbers = tuple(triple[2] for triple in bound)
            self.fails(store, bound, ("plus", ("column", "a", "x"), 1), "kind", (), numbers)
            self.same(store, bound, ("plus", ("column", "b", "x"), 1), 2)


class Comparisons(Case):
    def test_less_and_most(self):
        for one, other in product(SOME, SOME):
            for word, holds in (("less", lambda: one < other), ("most", lambda: one <= other)):
                leaf = (word, v(one), v(other))
                if one in OF_KIND["number"] and other in OF_KIND["number"]:
                    self.same(Store(), (), leaf, holds())
                else:
                    self.fails(Store(), (), leaf, "kind", (), ())

    def test_same(self):
        for one, other in product(SOME, SOME):
            leaf = ("same", v(one), v(other))
            if one is None or other is None:
                self.fails(Store(), (), leaf, "nothing", (4, 4), (), (4, 4))
            else:
                self.same(Store(), (), leaf, one == other)

    def test_is(self):
        for kind, values in OF_KIND.items():
            for value, asked in product(values, KINDS):
                self.same(Store(), (), ("is", v(value), asked), kind == asked)

    def test_each_side_fails_by_itself(self):
        bad, good = ("plus", v("a"), 1), v(1)
        for word in ("less", "most", "same"):
            self.fails(Store(), (), (word, bad, good), "kind", (1,), ())
            self.fails(Store(), (), (word, good, bad), "kind", (2,), ())
            self.fails(Store(), (), (word, bad, ("plus", v(R), 1)), "kind", (1,), ())
            self.fails(Store(), (), (word, ("plus", v(R), 1), bad), "range", (7, 1), (), (7,))
        self.fails(Store(), (), ("is", bad, "word"), "kind", (1,), ())

    def test_both_sides_are_evaluated_before_they_are_compared(self):
        for word, value in (("less", "a"), ("most", None), ("same", None)):
            self.fails(Store(), (), (word, v(value), ("plus", v(R), 1)), "range", (2,), ())
            self.fails(Store(), (), (word, ("plus", v(R), 1), v(value)), "range", (1,), ())

    def test_columns_of_the_same_and_of_other_rows(self):
        store = table((1, 2), (2, 2), ("a", None))
        bound = (("a", "t", 0), ("b", "t", 1), ("c", "t", 2))
        self.same(store, bound, ("less", ("column", "a", "x"), ("column", "a", "y")), True)
        self.same(store, bound, ("same", ("column", "b", "x"), ("column", "a", "y")), True)
        self.same(store, bound, ("same", ("column", "c", "x"), ("column", "a", "y")), False)
        self.fails(store, bound, ("same", ("column", "a", "x"), ("column", "c", "y")), "nothing", (), (0, 1, 2))


class AndOrNot(Case):
    def test_truths(self):
        for one, other in product((TRUE, FALSE), (TRUE, FALSE)):
            self.same(Store(), (), ("and", one, other), one == other == TRUE)
            self.same(Store(), (), ("or", one, other), TRUE in (one, other))
        self.same(Store(), (), ("not", TRUE), False)
        self.same(Store(), (), ("not", ("not", TRUE)), True)

    def test_behind_one_that_decides(self):
        self.same(Store(), (), ("and", FALSE, BAD), False)
        self.same(Store(), (), ("or", TRUE, BAD), True)
        self.same(Store(), (), ("not", ("and", FALSE, BAD)), True)
        self.same(Store(), (), ("or", ("not", ("and", FALSE, BAD)), BAD), True)

    def test_behind_one_that_does_not_decide(self):
        self.fails(Store(), (), ("and", TRUE, BAD), "kind", (2,), ())
        self.fails(Store(), (), ("or", FALSE, BAD), "kind", (1, 2), (), (1,))
        self.fails(Store(), (), ("or", ("and", FALSE, NONE), BAD), "kind", (2,), ())
        self.fails(Store(), (), ("and", ("or", FALSE, TRUE), ("not", NONE)), "nothing", (2, 1), ())

    def test_the_first_one_fails(self):
        for word, other in product(("and", "or"), (TRUE, FALSE, NONE)):
            self.fails(Store(), (), (word, BAD, other), "kind", (1,), ())
        self.fails(Store(), (), ("not", ("and", NONE, BAD)), "nothing", (9, 1, 1), (), (9,))

    def test_six_deep(self):
        condition, place = BAD, ()
        for at in range(6):
            condition = ("and", TRUE, condition) if at % 2 else ("or", FALSE, condition)
            place += (2,)
        self.fails(Store(), (), condition, "kind", place, ())


COLUMN = ("column", "z", "x")
OUTER = ("column", "a", "x")


class InnerQuestions(Case):
    def inner(self, condition, *aliases):
        return (tuple((alias, "t") for alias in aliases or ("z",)), condition)

    def numbers(self, *values):
        return table(*[(value, at) for at, value in enumerate(values)])

    def test_no_rows(self):
        store = table()
        for condition in (TRUE, BAD, ("less", COLUMN, v(1))):
            self.same(store, (), ("exists", self.inner(condition)), False)
            for word in ("first", "only"):
                self.same(store, (), (word, self.inner(condition), ("plus", v("a"), 1)), None)
                self.same(store, (), (word, self.inner(condition, "z", "y"), COLUMN), None)

    def test_none_one_and_several_matches(self):
        store = self.numbers(5, 3, 3, 8)
        for wanted, rows in ((5, [0]), (3, [1, 2]), (8, [3]), (9, [])):
            match = self.inner(("same", COLUMN, v(wanted)))
            self.same(store, (), ("exists", match), bool(rows))
            self.same(store, (), ("first", match, ("column", "z", "y")), rows[0] if rows else None)
            if len(rows) == 2:
                self.fails(store, (), ("only", match, ("column", "z", "y")), "several", (6,), (2,), (6,))
            else:
                self.same(store, (), ("only", match, ("column", "z", "y")), rows[0] if rows else None)

    def test_a_match_whose_value_is_nothing_is_a_match(self):
        store = table((1, None), (1, 5))
        match = self.inner(("same", COLUMN, v(1)))
        self.same(store, (), ("first", match, ("column", "z", "y")), None)
        self.fails(store, (), ("only", match, ("column", "z", "y")), "several", (), (1,))

    def test_conditions_that_fail_at_some_row(self):
        store = self.numbers(5, "a", 5, 7)
        small = self.inner(("less", COLUMN, v(6)))
        self.same(store, (), ("exists", small), True)
        self.same(store, (), ("first", small, COLUMN), 5)
        self.fails(store, (), ("only", small, COLUMN), "kind", (1, 1), (1,))
        great = self.inner(("less", v(6), COLUMN))
        self.fails(store, (), ("exists", great), "kind", (2, 1, 1), (1,), (2,))
        self.fails(store, (), ("first", great, COLUMN), "kind", (2, 1, 1), (1,), (2,))
        self.fails(store, (), ("only", great, COLUMN), "kind", (1, 1), (1,))

    def test_several_ahead_of_a_row_at_which_the_condition_fails(self):
        store = self.numbers(5, 5, "a")
        self.fails(store, (), ("only", self.inner(("less", COLUMN, v(6))), COLUMN), "several", (), (1,))

    def test_a_term_that_fails_at_its_first_match(self):
        store = self.numbers(1, "a", "b")
        word = self.inner(("is", COLUMN, "word"))
        for name in ("first", "only"):
            self.fails(store, (), (name, word, ("plus", COLUMN, 1)), "kind", (2,), (1,))
            self.fails(store, (), (name, word, ("plus", ("plus", v(R), 1), 1)), "range", (3, 2, 1), (1,), (3,))

    def test_a_term_is_evaluated_for_the_first_match_only(self):
        store = table((1, 5), (1, "a"))
        match = self.inner(("same", COLUMN, v(1)))
        self.same(store, (), ("first", match, ("plus", ("column", "z", "y"), 1)), 6)
        self.fails(store, (), ("only", match, ("plus", ("column", "z", "y"), 1)), "several", (), (1,))

    def test_two_refs_the_first_one_is_the_slowest(self):
        store = self.numbers(1, 2, 3)
        store.take("t", 0)
        store.put("t", 4, 4)
        differ = self.inner(("not", ("same", COLUMN, ("column", "w", "x"))), "z", "w")
        self.same(store, (), ("first", differ, COLUMN), 2)
        self.same(store, (), ("first", differ, ("column", "w", "x")), 3)
        self.fails(store, (), ("only", differ, COLUMN), "several", (), (1, 3))
        sums = self.inner(("same", ("plus", COLUMN, -1), ("column", "w", "x")), "z", "w")
        self.fails(store, (), ("only", sums, COLUMN), "several", (), (3, 2))
        last = self.inner(("and", ("same", COLUMN, v(4)), ("same", ("column", "w", "x"), v(2))), "z", "w")
        self.same(store, (), ("only", last, ("plus", ("column", "w", "y"), 0)), 1)
        store.put("t", None, None)
        self.fails(store, (), ("exists", self.inner(BAD, "z", "w")), "kind", (1, 1), (1, 1))
        self.fails(store, (), ("only", last, COLUMN), "nothing", (1, 1, 2), (3, 4))

    def test_rows_around_stand_in_front(self):
        store = self.numbers(4, 5, "a")
        equal = self.inner(("less", COLUMN, OUTER))
        bound = (("b", "t", 2), ("a", "t", 1))
        self.same(store, bound, ("exists", equal), True)
        self.same(store, bound, ("first", equal, ("plus", OUTER, 1)), 6)
        self.fails(store, bound, ("only", equal, OUTER), "kind", (1, 1), (2, 1, 2))
        self.fails(store, (("a", "t", 2),), ("exists", equal), "kind", (1, 1), (2, 0))
        self.fails(store, bound, ("plus", ("first", equal, ("column", "b", "x")), 1), "kind", (), (2, 1))
        self.fails(store, bound, ("first", equal, ("plus", ("column", "b", "x"), 1)), "kind", (2,), (2, 1, 0))

    def test_an_operation_around_an_inner_question_fails_at_the_rows_around(self):
        store = self.numbers(4, 5)
        none = ("only", self.inner(FALSE), COLUMN)
        self.fails(store, (("a", "t", 1),), ("less", OUTER, none), "kind", (), (1,))
        self.fails(store, (("a", "t", 1),), ("same", none, OUTER), "nothing", (), (1,))
        self.same(store, (("a", "t", 1),), ("is", none, "nothing"), True)

    def test_another_table(self):
        found = ("first", ((("s", "sale"),), SOLD), ("column", "s", "count"))
        self.same(shop(), (("i", "item", 2),), found, 9)
        self.same(shop(), (("i", "item", 1),), found, None)

    def test_places_are_those_behind_the_place_that_is_passed(self):
        store = self.numbers("a")
        inner = self.inner(("not", ("and", TRUE, ("most", ("plus", COLUMN, 1), v(1)))))
        for start in ((), (1,), (2, 0), (1, 2, 1)):
            self.fails(store, (), ("exists", inner), "kind", (*start, 1, 1, 1, 2, 1), (0,), start)
            self.fails(store, (), ("only", inner, v(1)), "kind", (*start, 1, 1, 1, 2, 1), (0,), start)


class Interface(Case):
    def test_parameters_by_name(self):
        bound = (("i", "item", 1),)
        self.assertEqual(term_value(store=shop(), bound=bound, term=NAME, place=(1, 2)), "hat")
        self.assertIs(condition_holds(store=shop(), bound=bound, condition=("is", PRICE, "nothing"), place=()), True)

    def test_the_examples(self):
        hat = (("i", "item", 1),)
        self.same(shop(), hat, NAME, "hat")
        self.same(shop(), hat, ("is", PRICE, "nothing"), True)
        self.fails(shop(), hat, CHEAP, "kind", (1, 1), (1,), (1, 1))

    def test_rows_that_are_bound_and_not_named(self):
        self.same(shop(), (("s", "sale", 0), ("i", "item", 0), ("k", "item", 1)), SOLD, True)


class ByChance(Case):
    def test_as_the_oracle_says(self):
        rng = random.Random(9)
        words = {}
        for _ in range(1500):
            schema = chance.some_schema(rng)
            refs, where, told, _, _ = chance.some_question(rng, schema)
            store = chance.some_store(rng, schema)
            parts = [((2, at), term) for at, term in enumerate(told)] + ([] if where is None else [((1,), where)])
            for numbers in list(Oracle(store).ways(refs))[:3]:
                bound = [(alias, name, number) for (alias, name), number in zip(refs, numbers)]
                rng.shuffle(bound)
                for place, part in parts:
                    got = Oracle(store).eval(bound, part, place)
                    if got[0] == "ok":
                        self.same(store, tuple(bound), part, got[1], place)
                    else:
                        self.fails(store, tuple(bound), part, *got[1:], place)
                    words[got[1] if got[0] == "fails" else "ok"] = True
        self.assertEqual(sorted(words), ["kind", "nothing", "ok", "range", "several"])
