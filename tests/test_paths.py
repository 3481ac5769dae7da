"""Paths of courses and what courses cost."""

import random
import unittest

from failsalike.paths import cost, fetched
from failsalike.stores import Store
from tests.chance import KINDS, all_kinds, some_question, some_schema, some_store
from tests.planning import path_rows, some_course
from tests.everyvalue import goal_places
from tests.shop import ONE, shop

R = 10**12
COURSE = ((2,), ("i", "s"), (("index", "price", (1, 2), ("fails",)), ("rows",)))
SCHEMA = (
    ("t", (("p", KINDS), ("q", KINDS)), (), ("p", "q")),
    ("u", (("p", KINDS),), (), ("p",)),
)
AP, AQ, BP = ("column", "a", "p"), ("column", "a", "q"), ("column", "b", "p")
ALL = ("true", "false", "fails")


def store_of(*values):
    """Rows of t with values in p; u has the rows 3 and 5."""
    store = Store.of(SCHEMA)
    for value in values:
        store.put("t", value, 7)
    for value in range(6):
        store.put("u", value)
    for number in (0, 1, 2, 4):
        store.take("u", number)
    return store


def question(leaf, refs=(("a", "t"), ("b", "u"))):
    return (refs, leaf, (("value", 1),), (), None)


class Fetched(unittest.TestCase):
    def one(self, store, path, leaf=("less", AP, ("value", 3))):
        """What a path of a fetches when nothing is bound."""
        return fetched(store, question(leaf), ((1,), ("a", "b"), (path, ("rows",))), ())

    def test_the_examples(self):
        store = shop()
        self.assertEqual(fetched(store, ONE, COURSE, ()), (1, 2))
        self.assertEqual(fetched(store, ONE, COURSE, (("i", "item", 2),)), (0, 1))
        self.assertEqual(cost(store, ONE, COURSE), 6)
        self.assertEqual(fetched(store=store, question=ONE, course=COURSE, bound=()), (1, 2))
        self.assertEqual(cost(store=store, question=ONE, course=COURSE), 6)

    def test_rows_and_first(self):
        for values, expected in (((), ()), ((5,), (0,)), ((5, None, "a"), (0, 1, 2))):
            store = store_of(*values)
            self.assertEqual(self.one(store, ("rows",)), expected)
            self.assertEqual(self.one(store, ("first",)), expected[:1])
        store.take("t", 0)
        self.assertEqual(self.one(store, ("rows",)), (1, 2))
        self.assertEqual(self.one(store, ("first",)), (1,))
        store.take("t", 1)
        store.take("t", 2)
        self.assertEqual([self.one(store, ("rows",)), self.one(store, ("first",))], [(), ()])

    def test_between(self):
        store = store_of(5, "a", 3, None, 4, 3, -R, R)
        for low, high, expected in (
            (3, 5, (2, 5, 4, 0)),
            (3, 3, (2, 5)),
            (4, 4, (4,)),
            (6, 9, ()),
            (-R, R, (6, 2, 5, 4, 0, 7)),
            (R, R, (7,)),
            (-R, -R, (6,)),
            (-R + 1, R - 1, (2, 5, 4, 0)),
        ):
            self.assertEqual(self.one(store, ("between", "p", low, high, ("x", None))), expected)
        self.assertEqual(self.one(store_of(), ("between", "p", -R, R, ())), ())

    def test_index_with_each_set_of_outcomes(self):
        store = store_of(5, "a", 1, None, 2, 1)
        parts = {"true": (2, 5, 4), "false": (0,), "fails": (3, 1)}
        order = (3, 2, 5, 4, 0, 1)
        for size in range(1, 8):
            outcomes = tuple(outcome for at, outcome in enumerate(ALL) if size >> at & 1)
            expected = tuple(number for number in order if any(number in parts[outcome] for outcome in outcomes))
            self.assertEqual(self.one(store, ("index", "p", (1,), outcomes)), expected)

    def test_index_with_each_leaf(self):
        store = store_of(5, "a", 1, None)
        for leaf, true, false, fails in (
            (("less", AP, ("value", 5)), (2,), (0,), (3, 1)),
            (("most", AP, ("value", 5)), (2, 0), (), (3, 1)),
            (("most", ("value", 5), AP), (0,), (2,), (3, 1)),
            (("same", AP, ("value", "a")), (1,), (2, 0), (3,)),
            (("same", ("value", None), AP), (), (), (3, 2, 0, 1)),
            (("is", AP, "word"), (1,), (3, 2, 0), ()),
            (("is", AP, "nothing"), (3,), (2, 0, 1), ()),
            (("less", ("plus", ("value", R), 1), AP), (), (), (3, 2, 0, 1)),
        ):
            for outcome, expected in (("true", true), ("false", false), ("fails", fails)):
                self.assertEqual(self.one(store, ("index", "p", (1,), (outcome,)), leaf), expected, leaf)

    def test_the_place_of_the_leaf(self):
        leaf = ("and", ("is", AQ, "number"), ("not", ("less", AP, ("value", 3))))
        self.assertEqual(self.one(store_of(5, 1, "a"), ("index", "p", (1, 2, 1), ("true",)), leaf), (1,))
        self.assertEqual(self.one(store_of(5, 1, "a"), ("index", "q", (1, 1), ("true",)), leaf), (0, 1, 2))

    def test_leaves_that_compare_with_a_ref_before(self):
        store = store_of(4, 5, None)
        asked = question(("less", BP, AP))
        course = ((1,), ("a", "b"), (("rows",), ("index", "p", (1,), ("true",))))
        self.assertEqual(fetched(store, asked, course, ()), (0, 1, 2))
        for number, expected in ((0, (3,)), (1, (3,)), (2, ())):
            self.assertEqual(fetched(store, asked, course, (("a", "t", number),)), expected)
        fails = ((1,), ("a", "b"), (("rows",), ("index", "p", (1,), ("false", "fails"))))
        for number, expected in ((0, (5,)), (1, (5,)), (2, (3, 5))):
            self.assertEqual(fetched(store, asked, fails, (("a", "t", number),)), expected)
        turned = ((1,), ("b", "a"), (("rows",), ("index", "p", (1,), ("true",))))
        self.assertEqual(fetched(store, asked, turned, ()), (3, 5))
        self.assertEqual(fetched(store, asked, turned, (("b", "u", 3),)), (0, 1))
        self.assertEqual(fetched(store, asked, turned, (("b", "u", 5),)), ())

    def test_cost(self):
        store = store_of(5, "a", 1, None, 2, 1)
        asked = question(("and", ("less", AP, ("value", 3)), ("less", BP, AP)))
        rows, first, near = ("rows",), ("first",), ("between", "p", 1, 2, (None,))
        true = ("index", "p", (1, 1), ("true",))
        other = ("index", "p", (1, 2), ("fails",))
        for order, paths, expected in (
            (("a", "b"), (rows, rows), 6 + 12),
            (("b", "a"), (rows, rows), 2 + 12),
            (("a", "b"), (first, rows), 1 + 2),
            (("a", "b"), (first, first), 1 + 1),
            (("a", "b"), (true, rows), 3 + 6),
            (("b", "a"), (rows, true), 2 + 6),
            (("a", "b"), (near, first), 3 + 3),
            # A leaf that names another ref: as many as the table has.
            (("a", "b"), (true, other), 3 + 6),
            (("b", "a"), (rows, other), 2 + 12),
        ):
            self.assertEqual(cost(store, asked, ((1,), order, paths)), expected, paths)
        empty = store_of()
        self.assertEqual(cost(empty, asked, ((1,), ("a", "b"), (rows, rows))), 0)
        self.assertEqual(cost(empty, asked, ((1,), ("b", "a"), (rows, rows))), 2)
        self.assertEqual(cost(empty, asked, ((1,), ("b", "a"), (first, first))), 1)

    def expected(self, store, asked, course, bound):
        return tuple(path_rows(store, asked, course, bound))

    def test_drawn_courses(self):
        rng = random.Random(31)
        sorts = []
        for _ in range(400):
            schema = all_kinds(some_schema(rng))
            asked = some_question(rng, schema, 3, 1)
            store = some_store(rng, schema, 4)
            goals = sorted(rng.sample(range(len(goal_places(asked))), 1))
            course = some_course(rng, schema, asked, goals, None)
            tables = dict(asked[0])
            many, total = 1, 0
            bounds = [()]
            for at, alias in enumerate(course[1]):
                path = course[2][at]
                sorts.append(path[0])
                most = len(store.rows(tables[alias]))
                for bound in bounds:
                    got = fetched(store, asked, course, bound)
                    self.assertEqual(got, self.expected(store, asked, course, bound), (asked, course, bound))
                if path[0] != "index" or "'column', '" not in self.other_side(asked, path, alias):
                    most = len(self.expected(store, asked, course, bounds[0])) if bounds else 0
                    if not bounds:
                        break
                many *= most
                total += many
                rows = [number for number, _ in store.rows(tables[alias])]
                bounds = [(*bound, (alias, tables[alias], number)) for bound in bounds for number in rows]
            else:
                self.assertEqual(cost(store, asked, course), total, (asked, course))
        for sort in ("rows", "first", "index", "between"):
            self.assertGreater(sorts.count(sort), 30)

    def other_side(self, asked, path, alias):
        """The leaf of an index path without its own column."""
        leaf = asked
        for step in path[2]:
            leaf = leaf[step]
        return repr(leaf).replace(repr(("column", alias, path[1])), "")
