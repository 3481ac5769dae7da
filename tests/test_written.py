"""[9], [10] and the functions of failsalike.written."""

import copy
import random
import unittest
from itertools import islice, product

from failsalike.errors import Failed
from failsalike.stores import Store
from failsalike.written import combinations, outcome, result_of, written
from tests import chance
from tests.oracle import Oracle
from tests.samples import R, VALUES
from tests.shop import CHEAP, NAME, ONE, PRICE, REFS, SOLD, TWO, shop

KINDS = ("nothing", "number", "word")
X, Y = ("column", "a", "x"), ("column", "a", "y")
BX, CX, DX = ("column", "b", "x"), ("column", "c", "x"), ("column", "d", "x")
TRUE, FALSE = ("is", ("value", 1), "number"), ("is", ("value", 1), "word")


def table(*rows):
    """A store with a table t of the columns x and y, and an empty table u."""
    store = Store.of((("t", (("x", KINDS), ("y", KINDS)), (), ()), ("u", (("z", KINDS),), (), ())))
    for row in rows:
        store.put("t", *row)
    return store


def column(*values):
    return table(*[(value, at) for at, value in enumerate(values)])


def ask(where=None, *told, order=(), limit=None, refs=(("a", "t"),)):
    return (refs, where, told or (Y,), order, limit)


class Case(unittest.TestCase):
    def check(self, store, question):
        """All that is told is what the oracle tells; nothing that is passed changes. Returns the outcome."""
        before, passed = store.copy(), copy.deepcopy(question)
        expected = Oracle(store).outcome(question)
        for _ in range(2):
            self.assertEqual(outcome(store, question), expected, question)
        told, failed = [], None
        try:
            for row in written(store, question):
                told.append(row)
        except Failed as failure:
            failed = (failure.word, failure.place, failure.numbers)
        self.assertEqual((tuple(told), failed), expected, question)
        self.assertEqual((store, question), (before, passed))
        return expected


class Combinations(Case):
    def test_of_one_ref_to_four(self):
        store = table(*[(k, k) for k in range(3)])
        refs = tuple((alias, "t") for alias in "abcd")
        for many in range(1, 5):
            self.assertEqual(list(combinations(store, refs[:many])), list(product(range(3), repeat=many)))

    def test_they_ascend_with_gaps(self):
        store = table(*[(k, k) for k in range(7)])
        for number in (0, 2, 3, 6):
            store.take("t", number)
        store.put("t", 1, 1)
        refs = (("a", "t"), ("b", "t"))
        got = list(combinations(store, refs))
        self.assertEqual(got, [(a, b) for a in (1, 4, 5, 7) for b in (1, 4, 5, 7)])
        self.assertEqual(got, sorted(set(got)))

    def test_of_several_tables(self):
        self.assertEqual(list(combinations(shop(), REFS)), list(product(range(3), range(2))))
        self.assertEqual(list(combinations(shop(), REFS[::-1])), list(product(range(2), range(3))))

    def test_of_an_empty_table(self):
        store = column(1, 2)
        for refs in ((("a", "u"),), (("a", "t"), ("b", "u")), (("b", "u"), ("a", "t")), (("a", "u"), ("b", "u"))):
            self.assertEqual(list(combinations(store, refs)), [])

    def test_by_name(self):
        self.assertEqual(list(combinations(refs=(("a", "t"),), store=column(1))), [(0,)])

    def test_two_at_once(self):
        refs = (("a", "t"),)
        store = column(1, 2, 3)
        both = [(a, b) for a in combinations(store, refs) for b in combinations(store, refs)]
        self.assertEqual(both, [((a,), (b,)) for a in range(3) for b in range(3)])


class Results(Case):
    def test_match_none_and_fails(self):
        store = column(4, None, "a", 9)
        question = ask(("less", X, ("value", 5)), X, Y)
        expected = [("match", (4, 0)), ("fails", "kind", (1,), (1,)), ("fails", "kind", (1,), (2,)), ("none",)]
        self.assertEqual([result_of(store, question, (at,)) for at in range(4)], expected)

    def test_told_terms_are_evaluated_behind_where_and_in_order(self):
        store = column("a")
        bad, great = ("plus", X, 1), ("plus", ("value", R), 1)
        self.assertEqual(result_of(store, ask(FALSE, bad), (0,)), ("none",))
        self.assertEqual(result_of(store, ask(TRUE, Y, bad, great), (0,)), ("fails", "kind", (2, 1), (0,)))
        self.assertEqual(result_of(store, ask(TRUE, great, bad), (0,)), ("fails", "range", (2, 0), (0,)))
        where = ("same", ("value", None), X)
        self.assertEqual(result_of(store, ask(where, bad), (0,)), ("fails", "nothing", (1,), (0,)))

    def test_limit_and_order_do_not_matter(self):
        store = column(3, 2)
        for limit, order in product((None, 0, 1), ((), (X,))):
            self.assertEqual(result_of(store, ask(None, X, limit=limit, order=order), (1,)), ("match", (2,)))

    def test_the_examples(self):
        self.assertEqual(result_of(shop(), ONE, (0, 1)), ("none",))
        self.assertEqual(result_of(shop(), TWO, (1, 0)), ("fails", "kind", (1, 1), (1, 0)))
        self.assertEqual(result_of(store=shop(), question=ONE, numbers=(0, 0)), ("match", ("cup",)))

    def test_an_own_store_by_chance(self):
        rng = random.Random(5)
        for _ in range(300):
            schema = chance.some_schema(rng)
            question = chance.some_question(rng, schema)
            store = chance.some_store(rng, schema)
            for numbers in combinations(store, question[0]):
                self.assertEqual(result_of(store, question, numbers), Oracle(store).result(question, numbers))


class WithoutOrder(Case):
    def test_the_examples(self):
        self.assertEqual(outcome(shop(), ONE), ((((0, 0), ("cup",)),), ("kind", (1, 2), (2, 1))))
        self.assertEqual(outcome(shop(), TWO), ((((0, 0), ("cup",)),), ("kind", (1, 1), (1, 0))))
        self.assertEqual(outcome(question=ONE, store=shop()), outcome(shop(), ONE))

    def test_without_where(self):
        self.assertEqual(self.check(column("a", 2), ask(None, X)), ((((0,), ("a",)), ((1,), (2,))), None))
        self.assertEqual(self.check(table(), ask(None, X)), ((), None))

    def test_limits(self):
        store = column(1, 7, 2, 8, 3)
        question = ask(("less", X, ("value", 5)), X)
        for limit, many in ((0, 0), (1, 1), (2, 2), (3, 3), (4, 3), (1000, 3), (None, 3)):
            self.assertEqual(len(self.check(store, (*question[:4], limit))[0]), many)

    def test_failures_ahead_of_between_and_behind_the_matches(self):
        for values, told in ((("a", 1, 2), 0), ((1, "a", 2), 1), ((1, 2, "a"), 2), ((9, "a", 1), 0), ((1, 9, "a"), 1)):
            store = column(*values)
            question = ask(("less", X, ("value", 5)), X)
            got = self.check(store, question)
            self.assertEqual((len(got[0]), got[1]), (told, ("kind", (1,), (values.index("a"),))))
            for limit in (0, 1, 2, 3, 1000):
                got = self.check(store, (*question[:4], limit))
                self.assertEqual((len(got[0]), got[1] is None), (min(limit, told), limit <= told))

    def test_behind_the_last_row_that_a_limit_lets_by_nothing_is_evaluated(self):
        store = column(1, "a")
        self.assertIsNone(self.check(store, ask(("less", X, ("value", 5)), limit=1))[1])
        self.assertIsNotNone(self.check(store, ask(("less", X, ("value", 5)), limit=2))[1])

    def test_limit_0(self):
        store = column("a", "b")
        for order in ((), (X,)):
            self.assertEqual(self.check(store, ask(("less", X, X), order=order, limit=0)), ((), None))

    def test_rows_are_yielded_ahead_of_a_later_failure(self):
        store = column(1, 2, "a", 3)
        rows = written(store, ask(("less", X, ("value", 5)), X))
        self.assertEqual(list(islice(rows, 2)), [((0,), (1,)), ((1,), (2,))])
        with self.assertRaises(Failed) as caught:
            next(rows)
        self.assertEqual(caught.exception.numbers, (2,))
        with self.assertRaises(StopIteration):
            next(rows)

    def test_two_loops_one_within_the_other(self):
        store = column(1, 2, 3)
        question = ask(("less", X, ("value", 3)), X)
        told = [(one, other) for one in written(store, question) for other in written(store, question)]
        rows = (((0,), (1,)), ((1,), (2,)))
        self.assertEqual(told, list(product(rows, rows)))

    def test_rows_put_and_taken_between_two_runs(self):
        store = column(1, 2)
        question = ask(("less", X, ("value", 5)), X)
        self.assertEqual(self.check(store, question), ((((0,), (1,)), ((1,), (2,))), None))
        store.put("t", 3, 0)
        store.take("t", 0)
        self.assertEqual(self.check(store, question), ((((1,), (2,)), ((2,), (3,))), None))
        store.put("t", None, 0)
        self.assertEqual(self.check(store, question)[1], ("kind", (1,), (3,)))
        store.take("t", 3)
        self.assertIsNone(self.check(store, question)[1])

    def test_a_run_that_has_begun_goes_on_with_its_rows(self):
        store = column(1, 2)
        rows = written(store, ask(None, X))
        first = next(rows)
        store.put("t", 3, 0)
        store.take("t", 1)
        self.assertEqual([first, *rows], [((0,), (1,)), ((1,), (2,))])

    def test_several_refs(self):
        store = column(1, 2, 3)
        refs = tuple((alias, "t") for alias in "abcd")
        where = ("and", ("less", X, BX), ("and", ("less", BX, CX), ("same", DX, ("plus", CX, -1))))
        self.assertEqual(self.check(store, ask(where, X, DX, refs=refs)), ((((0, 1, 2, 1), (1, 2)),), None))
        store.put("t", None, None)
        self.assertEqual(self.check(store, ask(where, X, refs=refs))[1], ("nothing", (1, 2, 2), (0, 1, 2, 3)))
        for many in range(1, 5):
            self.check(store, ask(None, X, refs=refs[:many], limit=100))

    def test_inner_questions(self):
        store = column(1, 2, 2)
        k = ("column", "k", "x")
        more = ((("k", "t"),), ("less", X, k))
        self.assertEqual(self.check(store, ask(("exists", more), X)), ((((0,), (1,)),), None))
        self.assertEqual(self.check(store, ask(None, ("first", more, k)))[0][2], ((2,), (None,)))
        several = ("several", (2, 0, 1), (0, 2))
        self.assertEqual(self.check(store, ask(TRUE, ("plus", ("only", more, k), 1))), ((), (several[0], (2, 0, 1), (0, 2))))


class WithOrder(Case):
    def test_values_of_all_kinds(self):
        for step in (1, 5, 7):
            store = column(*[VALUES[k * step % len(VALUES)] for k in range(len(VALUES))])
            got = self.check(store, ask(None, X, order=(X,)))
            self.assertEqual([row[1][0] for row in got[0]], list(VALUES))
            got = self.check(store, ask(None, X, order=(X,), limit=4))
            self.assertEqual([row[1][0] for row in got[0]], list(VALUES[:4]))

    def test_equal_rows_stay_as_they_were(self):
        store = table((2, 0), (1, 1), (2, 2), (None, 3), (1, 4), (None, 5), ("a", 6), (2, 7))
        got = self.check(store, ask(None, Y, order=(X,)))
        self.assertEqual([row[1][0] for row in got[0]], [3, 5, 1, 4, 0, 2, 7, 6])

    def test_one_to_four_columns(self):
        rng = random.Random(2)
        rows = [(rng.choice((None, 1, 2, "a")), rng.choice((None, 1, "a", "b"))) for _ in range(12)]
        for order in ((X,), (Y, X), (X, Y), (X, X), (X, Y, X), (Y, X, Y, X)):
            for limit in (None, 0, 1, 11, 12, 13, 1000):
                self.check(table(*rows), ask(None, X, Y, order=order, limit=limit))

    def test_columns_of_several_refs(self):
        store = column(2, 1, None)
        refs = (("a", "t"), ("b", "t"))
        got = self.check(store, ask(None, X, BX, refs=refs, order=(BX, X)))
        self.assertEqual([row[0] for row in got[0]], [(a, b) for b in (2, 1, 0) for a in (2, 1, 0)])

    def test_a_run_that_fails_tells_no_row(self):
        for values in (("a", 1, 2), (1, "a", 2), (1, 2, "a")):
            for limit in (None, 1, 2, 1000):
                got = self.check(column(*values), ask(("less", X, ("value", 5)), X, order=(X,), limit=limit))
                self.assertEqual(got, ((), ("kind", (1,), (values.index("a"),))))
                rows = written(column(*values), ask(("less", X, ("value", 5)), X, order=(X,), limit=limit))
                with self.assertRaises(Failed):
                    next(rows)

    def test_limits(self):
        store = column(3, 9, 1, 2)
        question = ask(("less", X, ("value", 5)), X, order=(X,))
        for limit, many in ((0, 0), (1, 1), (2, 2), (3, 3), (4, 3), (1000, 3), (None, 3)):
            got = self.check(store, (*question[:4], limit))
            self.assertEqual([row[1][0] for row in got[0]], [1, 2, 3][:many])

    def test_columns_that_are_not_told(self):
        store = table((1, "c"), (2, "b"), (3, "a"))
        got = self.check(store, ask(None, X, order=(Y,)))
        self.assertEqual([row[1] for row in got[0]], [(3,), (2,), (1,)])


class ByChance(Case):
    def test_as_the_oracle_says(self):
        rng = random.Random(10)
        words = {}
        for _ in range(800):
            schema = chance.some_schema(rng)
            question = chance.some_question(rng, schema, most_refs=3, ordered=0.4, limited=0.5)
            got = self.check(chance.some_store(rng, schema), question)
            words[got[1] and got[1][0], bool(got[0]), bool(question[3])] = True
        for word in ("kind", "range", "nothing", "several", None):
            self.assertTrue(any(key[0] == word for key in words), word)
        self.assertTrue((None, True, True) in words and (None, True, False) in words)

    def test_the_shop_in_all_ways(self):
        for where in (None, SOLD, CHEAP, ("or", CHEAP, SOLD), ("and", ("is", PRICE, "number"), CHEAP)):
            for told, order, limit in product(((NAME,), (PRICE, ("plus", PRICE, 1))), ((), (PRICE,)), (None, 0, 1, 3)):
                self.check(shop(), (REFS, where, told, order, limit))
