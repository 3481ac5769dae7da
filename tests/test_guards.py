"""[20] and `guarded` of failsalike.guards; what is told is compared with the oracle's outcomes."""

import copy
import random
import unittest
from itertools import product

from failsalike.guards import Aliases, guarded
from failsalike.questions import is_question
from failsalike.stores import Store
from failsalike.values import is_name
from failsalike.written import outcome
from tests import chance
from tests.oracle import oracle_outcome
from tests.samples import R
from tests.shop import CHEAP, NAME, ONE, PRICE, REFS, SOLD, shop

KINDS = ("nothing", "number", "word")
SCHEMA = (("t", (("x", KINDS), ("y", KINDS)), (), ()), ("u", (("z", KINDS),), (), ()))
X, Y, Z = ("column", "a", "x"), ("column", "a", "y"), ("column", "k", "z")
TRUE = ("is", ("value", 1), "number")
VALUES = (None, 0, 1, R, -R, "a", "b")


def v(value):
    return ("value", value)


def plus(term, *ks):
    for k in ks:
        term = ("plus", term, k)
    return term


def stores():
    """Stores with rows of all kinds, of numbers alone, with a row, and without rows."""
    every = Store.of(SCHEMA)
    for x, y in product(VALUES, VALUES):
        every.put("t", x, y)
    numbers, one, bare = Store.of(SCHEMA), Store.of(SCHEMA), Store.of(SCHEMA)
    for store, values in ((every, VALUES), (numbers, (1, 1, 2)), (one, (3,))):
        for value in values:
            store.put("u", value)
    for x, y in product((0, 1, 2, R), (1, -R)):
        numbers.put("t", x, y)
    one.put("t", 3, 4)
    words = Store.of(SCHEMA)
    for x in "ab":
        words.put("t", x, x)
        words.put("u", x)
    return (every, numbers, one, words, bare)


STORES = stores()
INNERS = (
    TRUE,
    ("same", Z, X),
    ("less", Z, X),
    ("most", plus(Z, 1), v(2)),
    ("and", ("not", ("is", Z, "word")), ("same", Z, Y)),
    ("or", ("same", v(None), Z), TRUE),
)


class Case(unittest.TestCase):
    def check(self, question, schema=SCHEMA, given=None):
        """The guarded question keeps [20] on these stores; returns how often the given one did not fail."""
        before = copy.deepcopy(question)
        self.assertTrue(is_question(schema, question), question)
        guard = guarded(question)
        self.assertEqual((question, guarded(question)), (before, guard))
        self.assertTrue(is_question(schema, guard), question)
        self.assertEqual((guard[0], guard[3:]), (question[0], question[3:]))
        self.assertEqual(len(guard[2]), len(question[2]))
        unlimited = (*guard[:3], (), None)
        never = 0
        for store in STORES if given is None else given:
            self.assertIsNone(oracle_outcome(store, unlimited)[1], (question, unlimited))
            expected = oracle_outcome(store, question)
            if expected[1] is None:
                self.assertEqual(oracle_outcome(store, guard), expected, question)
                never += 1
        return never

    def ask(self, where=None, *told, order=(), limit=None):
        return ((("a", "t"),), where, told or (X,), order, limit)


class Leaves(Case):
    def test_both_sides(self):
        sides = (X, Y, v(1), v("a"), v(None), v(R), plus(X, 1), plus(Y, R, -R), plus(v(R), 1))
        for word, one, other in product(("less", "most", "same"), sides, sides):
            self.check(self.ask((word, one, other)))
            self.check(self.ask(("not", (word, one, other))))

    def test_kinds(self):
        for term, kind in product((X, v(1), plus(X, 1), plus(v("a"), 1), plus(Y, -R, R)), KINDS):
            self.check(self.ask(("is", term, kind)))

    def test_and_or_not(self):
        less, same = ("less", X, v(1)), ("same", Y, v("a"))
        number = ("is", X, "number")
        for word, other in product(("and", "or"), ("and", "or")):
            self.check(self.ask((word, less, (other, same, number))))
            self.check(self.ask((word, ("not", (other, number, less)), ("not", same))))
        # A guard that stands there already keeps the question from failing, and nothing is lost.
        self.assertEqual(self.check(self.ask(("and", number, less))), len(STORES))

    def test_sums_that_leave_the_range(self):
        for ks in ((1,), (-1,), (R,), (-R,), (R, -R), (-R, R, 1), (R, R), (R, R, R), (1, -1, 1, -1), (-R, -R, R, R)):
            for leaf in (("is", plus(X, *ks), "number"), ("most", plus(X, *ks), v(R)), ("same", v(1), plus(X, *ks))):
                self.check(self.ask(leaf))

    def test_sums_for_which_one_number_alone_is_right(self):
        store = Store.of(SCHEMA)
        store.put("t", -R, R)
        question = self.ask(("most", plus(Y, -R, -R), v(0)), plus(X, R, R), plus(Y, -R, -R))
        self.assertEqual(self.check(question, given=[store]), 1)
        self.assertEqual(len(outcome(store, guarded(question))[0]), 1)

    def test_matches_at_the_ends_of_the_range_are_kept(self):
        store = Store.of(SCHEMA)
        for value in (R, -R, R - 1, 1 - R, 0):
            store.put("t", value, 0)
        for k in (0, 1, -1, R, -R):
            for value in (R, -R, R - 1, 1 - R, 0):
                if -R <= value + k <= R:
                    only = ("and", ("same", X, v(value)), ("same", plus(X, k), v(value + k)))
                    self.assertEqual(len(outcome(store, guarded(self.ask(only, plus(X, k))))[0]), 1)
                    total = ("same", plus(v(value), k), v(value + k))
                    self.assertEqual(len(outcome(store, guarded(self.ask(total)))[0]), 5)


class ToldTerms(Case):
    def test_that_fail(self):
        for term in (plus(X, 1), plus(X, 1, -R, 2), plus(v("a"), 1), plus(v(R), 1), plus(v(3), 4)):
            self.check(self.ask(None, term))
            self.check(self.ask(("is", Y, "word"), Y, term, plus(Y, -1), X))
            self.check(self.ask(("less", Y, v(1)), term))

    def test_a_question_that_cannot_fail_stays_the_same(self):
        store = STORES[0]
        for where in (None, ("is", X, "word"), ("not", ("is", Y, "nothing"))):
            question = self.ask(where, X, Y)
            self.assertEqual(outcome(store, guarded(question)), outcome(store, question))

    def test_without_where_and_without_operations(self):
        self.assertEqual(self.check(self.ask(None, X, v(None))), len(STORES))


class InnerQuestions(Case):
    def inner(self, condition, *more):
        return ((("k", "u"), *more), condition)

    def test_exists(self):
        for condition in INNERS:
            self.check(self.ask(("exists", self.inner(condition))))
            self.check(self.ask(("not", ("exists", self.inner(condition)))))

    def test_first_and_only_in_told_terms(self):
        for word, condition, term in product(("first", "only"), INNERS, (Z, X, plus(Z, 1), plus(X, R, -1), v(1))):
            self.check(self.ask(None, (word, self.inner(condition), term)))
            self.check(self.ask(None, plus((word, self.inner(condition), term), 1, -R)))

    def test_first_and_only_in_leaves(self):
        for word, condition, term in product(("first", "only"), INNERS, (Z, plus(Z, 1), X)):
            inner = (word, self.inner(condition), term)
            for leaf in (("less", inner, v(2)), ("same", X, inner), ("is", plus(inner, 1), "number")):
                self.check(self.ask(leaf))
                self.check(self.ask(("not", leaf), plus(X, 1)))

    def test_two_in_one_leaf(self):
        one = ("only", self.inner(("same", Z, X)), Z)
        l = ("column", "l", "z")
        other = ("first", ((("l", "u"), ("m", "u")), ("less", l, ("column", "m", "z"))), plus(l, 1))
        for word in ("less", "most", "same"):
            self.check(self.ask((word, plus(one, 1), plus(other, -1, 2))))
            self.check(self.ask((word, other, one), plus(Y, 0)))

    def test_several_matches(self):
        store = Store.of(SCHEMA)
        for value in (1, 1, 2):
            store.put("u", value)
        for value in (2, 1, 3):
            store.put("t", value, 0)
        question = self.ask(None, X, ("only", self.inner(("same", Z, X)), Z))
        guard = guarded(question)
        self.assertEqual(outcome(store, (*question[:4], 1)), ((((0,), (2, 2)),), None))
        self.assertEqual(outcome(store, (*guard[:4], 1)), ((((0,), (2, 2)),), None))
        self.assertIsNone(outcome(store, guard)[1])

    def test_aliases_that_the_question_has_already(self):
        names = ["g" + letter for letter in "abcdefghijklmnopqrstuvwxyz"]
        for alias in names:
            k = ("column", alias, "z")
            refs = ((names[0] if alias != names[0] else "b", "t"), ("gaa", "t"))
            inner = ("only", (((alias, "u"), ("gab", "u")), ("same", k, ("column", "gab", "z"))), k)
            where = ("and", ("less", inner, v(2)), ("exists", ((("gc" if alias != "gc" else "c", "u"),), TRUE)))
            self.check((refs, where, (v(1),), (), None), given=STORES[2:])

    def test_more_copies_than_letters(self):
        leaf = ("less", plus(("only", self.inner(("same", Z, X)), Z), 1, -2), v(5))
        guard = guarded(self.ask(leaf, plus(("first", ((("l", "u"),), TRUE), Y), 3)))
        for _ in range(4):
            self.assertTrue(is_question(SCHEMA, guard))
            guard = guarded(guard)
        self.assertTrue(is_question(SCHEMA, guard))
        self.assertGreater(repr(guard).count("'u'"), 50)

    def test_fresh_aliases(self):
        taken = ["gb", "gz", "gaa", "gba", "gzz", "gaaa", "x"]
        aliases = Aliases(taken)
        fresh = [aliases.fresh() for _ in range(5000)]
        self.assertEqual(len(set(fresh + taken)), 5007)
        self.assertTrue(all(is_name(alias) for alias in fresh))
        self.assertEqual(fresh[:3] + fresh[23:26], ["ga", "gc", "gd", "gy", "gab", "gac"])


class OrdersAndLimits(Case):
    def test_limits(self):
        for limit in (None, 0, 1, 2, 3, 1000):
            for where in (None, ("less", X, v(2)), ("or", ("is", X, "word"), ("most", Y, v(1)))):
                self.check(self.ask(where, X, Y, limit=limit))
                self.check(self.ask(where, plus(X, 1), limit=limit))

    def test_orders(self):
        for order, limit in product(((X,), (Y, X), (X, X, Y)), (None, 0, 1, 5)):
            self.check(self.ask(("is", Y, "number"), Y, order=order, limit=limit))
            self.check(self.ask(("less", v(0), Y), plus(X, 1), order=order, limit=limit))

    def test_a_limit_ahead_of_a_failure(self):
        question = self.ask(("most", X, v(3)), X, limit=1)
        self.assertGreaterEqual(self.check(question), 3)


class Guarded(Case):
    def test_twice(self):
        inner = ((("k", "u"),), ("less", Z, X))
        questions = [self.ask(("less", X, v(1))), self.ask(None, plus(X, 1)), self.ask(("same", ("only", inner, Z), Y))]
        for question in questions:
            once = guarded(question)
            self.assertEqual(self.check(once), len(STORES))
            for store in STORES:
                self.assertEqual(outcome(store, guarded(once)), outcome(store, once))

    def test_by_name(self):
        self.assertEqual(guarded(question=ONE), guarded(ONE))

    def test_the_examples(self):
        told = ((((0, 0), ("cup",)), ((2, 1), ("pen",))), None)
        self.assertEqual(outcome(shop(), guarded((REFS, SOLD, (NAME,), (), None))), told)
        self.assertIsNone(outcome(shop(), guarded(ONE))[1])
        self.assertIsNone(outcome(shop(), guarded((REFS, ("not", CHEAP), (("plus", PRICE, R),), (), None)))[1])


class ByChance(Case):
    def test_questions(self):
        rng = random.Random(20)
        never = 0
        for _ in range(400):
            schema = chance.some_schema(rng)
            question = chance.some_question(rng, schema)
            schemas = (schema, chance.all_kinds(schema), chance.one_kind(schema, rng.choice(KINDS)))
            given = [chance.some_store(rng, one) for one in schemas] + [Store.of(schema)]
            never += self.check(question, schema, given)
            once = guarded(question)
            self.check(once, schema, given)
            for store in given:
                self.assertEqual(oracle_outcome(store, guarded(once)), oracle_outcome(store, once))
        self.assertGreater(never, 400)
