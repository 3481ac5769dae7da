"""Accepted plans, facts of main parts, and chosen plans."""

import random
import unittest
from itertools import permutations, product

from failsalike.facts import fact_holds
from failsalike.goals import goals_of
from failsalike.paths import cost
from failsalike.plans import chosen, facts_of, plan_holds
from failsalike.stores import Store
from tests.chance import KINDS, all_kinds, one_kind, some_question, some_schema, some_store
from tests.everyvalue import Reading, goal_places, has_inner, leaves, main_parts, outside
from tests.planning import OUTCOMES, Wrong, is_accepted, look_at_course, right_plan
from tests.samples import anything
from tests.shop import ONE, REFS, TWO, shop
from tests.spoiling import places, spoiled, with_part

R = 10**12
END = ("end",)
SCHEMA = (
    ("s", (("p", KINDS), ("q", ("number",))), (), ("p", "q")),
    ("t", (("p", KINDS), ("q", ("nothing", "number"))), (), ("p",)),
    ("u", (("p", KINDS),), (), ()),
)
AP, AQ = ("column", "a", "p"), ("column", "a", "q")
BP, BQ = ("column", "b", "p"), ("column", "b", "q")
REFS_AB = (("a", "s"), ("b", "t"))
ROWS, FIRST = ("rows",), ("first",)
COURSE = ((2,), ("i", "s"), (("index", "price", (1, 2), ("fails",)), ROWS))
REST = ((0, 1), ("i", "s"), (ROWS, ROWS))


def question(where, *told, refs=REFS_AB, order=(), limit=None):
    return (refs, where, told or (("value", 1),), order, limit)


def store_of(**rows):
    store = Store.of(SCHEMA)
    for name, values in rows.items():
        for row in values:
            store.put(name, *row)
    return store


class PlanHolds(unittest.TestCase):
    def holds(self, asked, *courses, omissions=(), facts=()):
        """Whether a plan holds; all goals that no course has are in a course of all rows, too."""
        done = {goal for course in courses for goal in course[0]} | {goal for goal, _ in omissions}
        rest = tuple(goal for goal in range(len(goals_of(asked))) if goal not in done)
        order = tuple(alias for alias, _ in asked[0])
        more = ((rest, order, (ROWS,) * len(order)),) if rest else ()
        plan = (tuple(courses) + more, omissions, facts)
        self.assertEqual(plan_holds(SCHEMA, asked, plan), is_accepted(SCHEMA, asked, plan))
        return plan_holds(SCHEMA, asked, plan)

    def test_the_examples(self):
        schema = shop().schema
        self.assertIs(plan_holds(schema, ONE, ((REST, COURSE), (), ())), True)
        self.assertIs(plan_holds(schema, ONE, ((COURSE,), (), ())), False)
        self.assertIs(plan_holds(schema=schema, question=ONE, thing=((COURSE, REST), (), ())), True)
        self.assertIs(plan_holds(schema, ONE, ((COURSE, REST, COURSE, COURSE), (), ())), True)

    def test_values_of_all_kinds(self):
        schema = shop().schema
        for thing in anything() + [shop(), ((), (), ()), (((),), ((),), ((),)), [(REST, COURSE), (), ()], ((REST, COURSE), ())]:
            self.assertIs(plan_holds(schema, ONE, thing), False)

    def test_goals(self):
        schema = shop().schema
        for goals, is_right in (
            ((0, 1), True), ((0, 1, 2), True), ((1,), False), ((1, 0), False), ((0, 0, 1), False), ((0, 1, 3), False),
            ((-1, 0, 1), False), ((False, 1), False), ((0, True), False), ([0, 1], False), ((), False), ("01", False),
            ((0, 1, "2"), False), ((0, None), False),
        ):
            plan = (((goals, ("i", "s"), (ROWS, ROWS)), COURSE), (), ())
            self.assertIs(plan_holds(schema, ONE, plan), is_right, goals)

    def test_courses_without_goals(self):
        schema = shop().schema
        for goals, is_right in (((0,), True), ((), False), ((0, 1, 2), True)):
            plan = ((REST, COURSE, (goals, ("i", "s"), (ROWS, ROWS))), (), ())
            self.assertIs(plan_holds(schema, ONE, plan), is_right)

    def test_orders(self):
        schema = shop().schema
        for order, is_right in (
            (("s", "i"), True), (("i",), False), (("i", "i"), False), (("i", "s", "s"), False), (("i", "x"), False),
            (["i", "s"], False), ("is", False), ((), False), (("i", None), False), (("i", ["s"]), False),
        ):
            plan = ((((0, 1, 2), order, (ROWS,) * len(order)),), (), ())
            self.assertIs(plan_holds(schema, ONE, plan), is_right, order)

    def test_paths_of_no_form(self):
        schema = shop().schema
        for path in (
            (), ("row",), ("rows", 1), ["rows"], "rows", None, 3, ("first", 1), ("index",), ("between",), (("rows",),),
            ("index", "price", (1, 2)), ("index", "price", (1, 2), ("true",), ()), ("between", "price", 0, 1),
            ("rows",) * 2, {"rows": 1}, (True,),
        ):
            plan = ((((0, 1, 2), ("i", "s"), (path, ROWS)),), (), ())
            self.assertIs(plan_holds(schema, ONE, plan), False, path)
            self.assertIs(plan_holds(schema, ONE, ((((0, 1, 2), ("i", "s"), (ROWS,)),), (), ())), False)
            self.assertIs(plan_holds(schema, ONE, ((((0, 1, 2), ("i", "s"), [ROWS, ROWS]),), (), ())), False)

    def test_index_paths_with_each_column_part_and_set_of_outcomes(self):
        where = ("and", ("less", AP, ("value", 3)), ("or", ("is", AP, "number"), ("not", ("same", BP, ("plus", AQ, 1)))))
        asked = question(where, ("plus", AQ, 1), BP)
        sets = [tuple(each for at, each in enumerate(OUTCOMES) if many >> at & 1) for many in range(8)]
        right = 0
        for goal, column, place, outcomes in product(range(4), "pqx", [*main_parts(asked), (1,), (), (2,)], sets):
            for order in (("a", "b"), ("b", "a")):
                for alias in "ab":
                    path = ("index", column, place, outcomes)
                    paths = tuple(path if each == alias else ROWS for each in order)
                    right += self.holds(asked, ((goal,), order, paths))
        self.assertGreater(right, 40)

    def test_what_index_paths_need(self):
        asked = question(("less", AP, ("value", 3)))
        true, fails = ("index", "p", (1,), ("true",)), ("index", "p", (1,), ("fails",))
        for goals, path, is_right in (
            ((0,), true, True), ((1,), fails, True), ((0,), fails, False), ((1,), true, False), ((0, 1), true, False),
            ((0, 1), ("index", "p", (1,), ("true", "fails")), True),
            ((0, 1), ("index", "p", (1,), ("true", "false", "fails")), True),
            ((0, 1), ("index", "p", (1,), ("fails", "true")), False),
            ((0,), ("index", "p", (1,), ("true", "true")), False),
            ((0,), ("index", "p", (1,), ["true"]), False),
            ((0,), ("index", "p", [1], ("true",)), False),
            ((0,), ("index", "p", (True,), ("true",)), False),
            ((0,), ("index", "q", (1,), ("true",)), False),
            ((0,), ("index", None, (1,), ("true",)), False),
            ((0,), ("index", ["p"], (1,), ("true",)), False),
        ):
            self.assertEqual(self.holds(asked, (goals, ("a", "b"), (path, ROWS))), is_right, (goals, path))
        # A column without an index.
        other = question(("less", BQ, ("value", 3)))
        self.assertFalse(self.holds(other, ((0,), ("b", "a"), (("index", "q", (1,), ("true",)), ROWS))))

    def test_the_other_term_of_an_index_path(self):
        inner = ("first", ((("c", "u"),), ("is", ("column", "c", "p"), "word")), ("value", 1))
        for other, orders in (
            (("value", 3), 2), (BP, 1), (("plus", BP, 1), 1), (AQ, 0), (AP, 0), (("plus", AP, 1), 0), (inner, 0),
        ):
            for leaf in (("less", AP, other), ("most", other, AP), ("same", AP, other)):
                asked = question(leaf)
                path = ("index", "p", (1,), ("true",))
                found = self.holds(asked, ((0,), ("a", "b"), (path, ROWS)))
                found += self.holds(asked, ((0,), ("b", "a"), (ROWS, path)))
                self.assertEqual(found, orders, leaf)
        asked = question(("is", ("plus", AP, 0), "number"))
        self.assertFalse(self.holds(asked, ((0,), ("a", "b"), (("index", "p", (1,), ("true",)), ROWS))))
        asked = question(("is", AP, "number"))
        self.assertTrue(self.holds(asked, ((0,), ("a", "b"), (("index", "p", (1,), ("true",)), ROWS))))
        # It cannot fail, but may be told to.
        both = ("index", "p", (1,), ("true", "fails"))
        self.assertTrue(self.holds(asked, ((0,), ("a", "b"), (both, ROWS))))
        self.assertFalse(self.holds(asked, ((0,), ("a", "b"), (("index", "p", (1,), ("fails",)), ROWS))))

    def test_first_paths(self):
        leaf = ("and", ("less", AP, ("value", 3)), ("less", ("value", 3), BP))
        inner = ((("c", "u"),), ("same", ("column", "c", "p"), BQ))
        asked = question(leaf, ("plus", AQ, 1), ("first", inner, ("value", 1)))
        self.assertEqual(goal_places(asked), [(), (1, 1), (1, 2), (2, 0), (2, 1)])
        for many in range(1, 6):
            for goals in permutations(range(5), many):
                if list(goals) == sorted(goals):
                    a_first = self.holds(asked, (goals, ("a", "b"), (FIRST, ROWS)))
                    b_first = self.holds(asked, (goals, ("b", "a"), (FIRST, ROWS)))
                    self.assertFalse(a_first)
                    self.assertEqual(b_first, goals == (1,), goals)
        # Within an inner question, too.
        other = question(("exists", inner), ("plus", AQ, 1))
        self.assertFalse(self.holds(other, ((1,), ("a", "b"), (ROWS, FIRST))))
        self.assertTrue(self.holds(other, ((1,), ("a", "b"), (FIRST, ROWS))))
        self.assertFalse(self.holds(other, ((2,), ("a", "b"), (FIRST, ROWS))))
        # Parts that cannot fail count.
        third = question(("and", ("is", BP, "word"), ("less", AP, ("value", 1))))
        self.assertFalse(self.holds(third, ((1,), ("a", "b"), (ROWS, FIRST))))
        fourth = question(("and", ("less", AP, ("value", 1)), ("is", BP, "word")), BP)
        self.assertTrue(self.holds(fourth, ((1,), ("a", "b"), (ROWS, FIRST))))
        self.assertTrue(self.holds(question(None, ("plus", AQ, 1), BP), ((1,), ("b", "a"), (FIRST, ROWS))))
        self.assertFalse(self.holds(question(None, BP, ("plus", AQ, 1)), ((1,), ("b", "a"), (FIRST, ROWS))))

    def test_between_paths(self):
        asked = question(("and", ("is", AP, "number"), ("most", AP, ("value", 3))), ("plus", AP, 1))
        whole = ("kind", ("a", "p"), END, ("most", ("a", "p"), (), 3, END, END), END)

        def between(low, high, *papers, column="p"):
            return ((0, 2), ("a", "b"), (("between", column, low, high, papers), ROWS))

        plan = dict(omissions=((1, END),), facts=())
        right = ("kind", ("a", "p"), END, END, END)
        self.assertFalse(self.holds(asked, between(-R, 3, END, END), **plan))
        self.assertTrue(self.holds(asked, between(-R, 3, whole, whole), omissions=((1, right),)))
        self.assertTrue(self.holds(asked, between(-R, R, right, right), omissions=((1, right),)))
        for low, high, papers in (
            (-R, 2, (whole, whole)), (0, 3, (whole, whole)), (-R, 3, (whole,)), (-R, 3, (whole,) * 3), (-R, 3, ()),
            (-R, 3, (whole, None)), (-R, 3, (END, whole)), (3, -R, (whole, whole)), (-R - 1, 3, (whole, whole)),
            (-R, R + 1, (whole, whole)), (-R, True, (whole, whole)), (None, 3, (whole, whole)), ("a", 3, (whole, whole)),
        ):
            self.assertFalse(self.holds(asked, between(low, high, *papers), omissions=((1, right),)), (low, high))
        self.assertFalse(self.holds(asked, between(-R, 3, whole, whole, column="q"), omissions=((1, right),)))
        other = ((0, 2), ("b", "a"), (("between", "p", -R, R, (whole, whole)), ROWS))
        self.assertFalse(self.holds(asked, other, omissions=((1, right),)))
        listed = ((0, 2), ("a", "b"), (("between", "p", -R, 3, [whole, whole]), ROWS))
        self.assertFalse(self.holds(asked, listed, omissions=((1, right),)))
        # By named facts of the plan.
        facts = (("no", "s", "p", "nothing"), ("no", "s", "p", "word"), ("within", "s", "p", 0, 3))
        self.assertTrue(self.holds(asked, between(0, 3, END, END), omissions=((1, END),), facts=facts))
        self.assertFalse(self.holds(asked, between(0, 2, END, END), omissions=((1, END),), facts=facts))
        self.assertFalse(self.holds(asked, between(0, 3, END, END), omissions=((1, END),), facts=facts[1:]))
        # Papers stand in the order of the goals.
        two = question(("and", ("is", AP, "number"), ("same", BP, BP)))
        kind = ("kind", ("a", "p"), END, END, END)
        nothing = ("kind", ("a", "p"), END, END, ("kind", ("b", "p"), END, END, END))
        course = ((0, 1), ("a", "b"), (("between", "p", -R, R, (kind, nothing)), ROWS))
        self.assertTrue(self.holds(two, course))
        wrong = ((0, 1), ("a", "b"), (("between", "p", -R, R, (nothing, ("kind", ("b", "p"), END, END, END))), ROWS))
        self.assertFalse(self.holds(two, wrong))

    def test_omissions(self):
        asked = question(("less", AQ, BQ))
        fact = ("no", "t", "q", "nothing")
        self.assertFalse(self.holds(asked, omissions=((1, END),)))
        self.assertTrue(self.holds(asked, omissions=((1, END),), facts=(fact,)))
        self.assertFalse(self.holds(asked, omissions=((1, END),), facts=(("no", "t", "q", "number"),)))
        self.assertFalse(self.holds(asked, omissions=((1, None),), facts=(fact,)))
        self.assertFalse(self.holds(asked, omissions=((0, END), (1, END)), facts=(fact,)))
        none = (("no", "t", "q", "nothing"), ("no", "t", "q", "number"))
        self.assertTrue(self.holds(asked, omissions=((0, END), (1, END)), facts=none))
        for omissions in (
            ((1, END), (0, END)), ((1, END), (1, END)), [(1, END)], ((True, END),), ((2, END),), ((-1, END),), (1, END),
            ((1,),), ((1, END, END),), ([1, END],), (("1", END),), ((None, END),),
        ):
            self.assertFalse(plan_holds(SCHEMA, asked, ((((0, 1), ("a", "b"), (ROWS, ROWS)),), omissions, none)))
        self.assertTrue(plan_holds(SCHEMA, asked, ((((0, 1), ("a", "b"), (ROWS, ROWS)),), ((1, END),), none)))

    def test_facts(self):
        asked = question(None)
        course = ((0,), ("a", "b"), (ROWS, ROWS))
        no, within = ("no", "s", "p", "word"), ("within", "s", "p", 0, 3)
        for facts, is_right in (
            ((no,), True), ((no, within), True), ((within, no), False), ((no, no), False), ([no], False),
            ((("no", "s", "x", "word"),), False), ((("no", "z", "p", "word"),), False), ((None,), False), (None, False),
            ((("within", "s", "p", 3, 0),), False), ((("within", "s", "p", False, 3),), False), (no, False),
            ((("no", "u", "p", "word"),), True), ((list(no),), False), ((("within", "s", "p", 0, R + 1),), False),
            ((("no", "s", "p", "nothing"), no), True),
        ):
            self.assertIs(plan_holds(SCHEMA, asked, ((course,), (), facts)), is_right, facts)

    def test_goals_in_no_course(self):
        asked = question(("less", AP, BP), ("plus", BP, 1))
        course = ((0,), ("a", "b"), (ROWS, ROWS))
        for goals, is_right in (((1, 2), True), ((1,), False), ((2,), False)):
            plan = ((course, (goals, ("b", "a"), (ROWS, ROWS))), (), ())
            self.assertIs(plan_holds(SCHEMA, asked, plan), is_right)
        self.assertIs(plan_holds(SCHEMA, asked, ((), (), ())), False)
        none = tuple(("no", "s", "p", kind) for kind in KINDS)
        self.assertTrue(plan_holds(SCHEMA, asked, ((), ((0, END), (1, END), (2, END)), none)))

    def test_plans_with_one_part_otherwise(self):
        rng = random.Random(17)
        met = []
        for _ in range(120):
            schema = some_schema(rng) if rng.random() < 0.5 else all_kinds(some_schema(rng))
            asked = some_question(rng, schema, rng.choice((1, 2, 2, 3)), 1, 0.2, 0.2)
            plan = right_plan(rng, schema, some_store(rng, schema, 3), asked)
            self.assertIs(plan_holds(schema, asked, plan), True)
            parts = [path for course in plan[0] for path in course[2]]
            pool = [ROWS, FIRST, "index", "between", *OUTCOMES, "p", "x", R + 1, *plan[0], *parts]
            for _ in range(10):
                other = spoiled(rng, plan, (), (), pool)
                met.append(plan_holds(schema, asked, other))
                self.assertIs(met[-1], is_accepted(schema, asked, other), (schema, asked, other))
        self.assertGreater(min(met.count(True), met.count(False)), 40)

    def test_each_part_of_a_plan_as_a_list_a_bool_and_none(self):
        facts = (("no", "s", "p", "nothing"), ("no", "s", "p", "word"), ("within", "s", "p", 0, 3))
        asked = question(("and", ("is", AP, "number"), ("most", AP, ("value", 3))), ("plus", AP, 1))
        between = ((0, 2), ("a", "b"), (("between", "p", 0, 3, (END, END)), ROWS))
        index = ((1,), ("b", "a"), (FIRST, ("index", "p", (1, 2), ("fails",))))
        plan = ((between, index), ((1, END),), facts)
        self.assertTrue(plan_holds(SCHEMA, asked, plan))
        for place in places(plan):
            part = plan
            for step in place:
                part = part[step]
            others = [None, True, list(part) if isinstance(part, tuple) else [part], {}, "zz"]
            for other in others:
                thing = with_part(plan, place, other)
                self.assertIs(plan_holds(SCHEMA, asked, thing), is_accepted(SCHEMA, asked, thing), (place, other))
            self.assertFalse(plan_holds(SCHEMA, asked, with_part(plan, place, None)), place)


class FactsOf(unittest.TestCase):
    def test_columns_of_all_kinds(self):
        asked = question(("less", AP, ("plus", BQ, 1)), AQ)
        store = store_of(s=[(3, 1), (None, 5), (-4, 2)], t=[("a", None), (3, None)])
        self.assertEqual(
            facts_of(store, asked, (1,)),
            (("no", "s", "p", "word"), ("no", "t", "q", "number"), ("within", "s", "p", -4, 3)),
        )
        self.assertEqual(facts_of(store, asked, (2, 0)), (("within", "s", "q", 1, 5),))
        self.assertEqual(facts_of(store=store, question=asked, place=(2, 0)), (("within", "s", "q", 1, 5),))

    def test_tables_without_rows_and_ends_of_the_range(self):
        asked = question(("same", AP, BP))
        every = tuple(("no", "s", "p", kind) for kind in KINDS)
        self.assertEqual(facts_of(store_of(t=[(R, 0), (-R, 0)]), asked, (1,)),
                         every + (("no", "t", "p", "nothing"), ("no", "t", "p", "word"), ("within", "t", "p", -R, R)))
        self.assertEqual(facts_of(store_of(s=[(R, 0), (None, 0), ("a", 0)], t=[("a", 0), (None, 0), (R, 0)]), asked, (1,)),
                         (("within", "s", "p", R, R), ("within", "t", "p", R, R)))

    def test_what_is_outside_of_inner_questions(self):
        inner = ((("c", "u"),), ("same", ("column", "c", "p"), BQ))
        asked = question(("same", ("first", inner, AP), BP), ("only", inner, AQ), ("value", 3))
        store = store_of(s=[(3, 1)], t=[(3, 2)], u=[(3,)])
        self.assertEqual([fact[1:3] for fact in facts_of(store, asked, (1,))], [("t", "p")] * 3)
        self.assertEqual(facts_of(store, asked, (2, 0)), ())
        self.assertEqual(facts_of(store, asked, (2, 1)), ())
        self.assertEqual(facts_of(store, question(("exists", inner)), (1,)), ())

    def test_columns_named_twice(self):
        refs = (("a", "s"), ("b", "s"))
        asked = question(("less", AP, BP), refs=refs)
        store = store_of(s=[(3, 1)])
        self.assertEqual(facts_of(store, asked, (1,)),
                         (("no", "s", "p", "nothing"), ("no", "s", "p", "word"), ("within", "s", "p", 3, 3)))

    def test_drawn_stores(self):
        rng = random.Random(5)
        for _ in range(150):
            schema = some_schema(rng)
            asked, store = some_question(rng, schema, 3, 2), some_store(rng, schema)
            for place, part in main_parts(asked).items():
                facts = facts_of(store, asked, place)
                self.assertEqual(list(facts), sorted(set(facts)))
                columns = {(dict(asked[0])[alias], name) for alias, name in outside(part)}
                expected = set()
                for table, name in columns:
                    [(at, kinds)] = [(at, pair[1]) for entry in schema if entry[0] == table
                                     for at, pair in enumerate(entry[1]) if pair[0] == name]
                    values = [row[at] for _, row in store.rows(table)]
                    numbers = [value for value in values if isinstance(value, int)]
                    here = {"nothing": None in values, "number": numbers, "word": any(isinstance(v, str) for v in values)}
                    expected |= {("no", table, name, kind) for kind in kinds if not here[kind]}
                    if numbers:
                        expected.add(("within", table, name, min(numbers), max(numbers)))
                self.assertEqual(set(facts), expected)
                self.assertTrue(all(fact_holds(store, fact) for fact in facts))


class Chosen(unittest.TestCase):
    def check(self, store, asked):
        """A chosen plan, which is accepted and whose facts are so."""
        plan = chosen(store, asked)
        self.assertTrue(plan_holds(store.schema, asked, plan), (asked, plan))
        self.assertTrue(is_accepted(store.schema, asked, plan))
        self.assertTrue(all(fact_holds(store, fact) for fact in plan[2]))
        goals = [course[0] for course in plan[0]]
        omitted = [goal for goal, _ in plan[1]]
        self.assertEqual(goals, [(goal,) for goal in range(len(goal_places(asked))) if goal not in omitted])
        facts = {fact for goal in omitted for fact in facts_of(store, asked, goal_places(asked)[goal])}
        self.assertEqual(plan[2], tuple(sorted(facts)))
        return plan

    def test_the_examples(self):
        store = shop()
        plan = self.check(store, ONE)
        self.assertEqual(plan[0][0], ((0,), ("i", "s"), (("index", "price", (1, 2), ("true",)), ROWS)))
        self.assertEqual([plan[0][1] == COURSE, plan[1][0][0], plan[2]], [True, 1, ()])
        self.check(store, TWO)
        self.assertEqual(chosen(store=store, question=(REFS, None, (("value", 1),), (), None))[1:], ((), ()))

    def test_what_is_omitted(self):
        store = store_of(s=[(3, R - 2), (4, 5)], t=[(3, 2), ("a", None)])
        for term, is_omitted in (
            (("plus", AQ, 1), True), (("plus", AQ, 2), True), (("plus", AQ, 3), False), (("plus", AQ, -R), True),
            (("plus", ("plus", AQ, -R), -5), True), (("plus", ("plus", AQ, -R), -6), False),
            (("plus", ("plus", AQ, 2), -5), True), (("plus", ("plus", ("plus", ("plus", AQ, 2), -5), 5), 1), False),
            (("plus", ("plus", ("plus", ("plus", AQ, 2), -5), 2), 3), True), (("plus", AP, 1), True),
            (("plus", BP, 1), False), (("plus", BQ, 1), False), (("plus", ("value", 3), 1), True),
            (("plus", ("value", "a"), 1), False), (("plus", ("value", R), 1), False),
        ):
            plan = self.check(store, question(None, term))
            self.assertEqual([goal for goal, _ in plan[1]], [1] if is_omitted else [], term)
        for leaf, is_omitted in (
            (("less", AP, AQ), True), (("less", AP, BP), False), (("same", AP, BP), True), (("same", BQ, AP), False),
            (("most", ("plus", AP, 1), ("value", 3)), True), (("same", AP, ("value", None)), False),
            (("is", ("plus", AQ, 2), "word"), True),
        ):
            plan = self.check(store, question(leaf))
            self.assertEqual([goal for goal, _ in plan[1]], [1] if is_omitted else [], leaf)

    def test_tables_without_rows(self):
        store = store_of(t=[("a", None)])
        for leaf in (("less", AP, BP), ("less", ("value", "a"), AP), ("same", BP, ("plus", AP, 1))):
            plan = self.check(store, question(leaf))
            self.assertEqual([goal for goal, _ in plan[1]], [1], leaf)
        self.assertEqual(self.check(store, question(("less", BP, ("value", "a"))))[1], ())
        self.assertEqual(self.check(store, question(("less", ("value", 1), ("value", "a"))))[1], ())
        inner = ((("c", "u"),), ("less", ("column", "c", "p"), AP))
        self.assertEqual(self.check(store, question(("exists", inner)))[1], ())
        self.assertEqual(self.check(store, question(("same", ("first", inner, AP), AP)))[1], ())

    def test_limits_and_orders_change_nothing(self):
        store = shop()
        for order, limit in (((), 0), ((ONE[2][0],), None), ((), 3)):
            self.assertEqual(chosen(store, (*ONE[:3], order, limit)), chosen(store, ONE))

    def test_no_path_matters_behind_one_without_rows(self):
        store = store_of(s=[(1, 1), (2, 2)], t=[(3, 3)])
        asked = question(("and", ("is", AP, "word"), ("is", BP, "number")))
        paths = (("index", "p", (1, 1), ("true",)), ("index", "p", (1, 2), ("true",)))
        self.assertEqual(self.check(store, asked)[0], (((0,), ("a", "b"), paths),))
        fails = question(("and", ("is", AP, "word"), ("less", AP, ("value", "a"))))
        self.assertEqual(self.check(store, fails)[0][1], ((1,), ("a", "b"), (("index", "p", (1, 1), ("true",)), FIRST)))
        # Not even how many rows they have.
        where = ("and", ("is", ("column", "b", "p"), "word"), ("and", ("is", AP, "number"), ("is", AQ, "word")))
        third = question(where, refs=(("b", "t"), ("a", "s")))
        self.assertEqual(self.check(store, third)[0], (((0,), ("a", "b"), (
            ("index", "q", (1, 2, 2), ("true",)), ("index", "p", (1, 1), ("true",)))),))
        store.put("s", None, 5)
        where = ("and", ("is", AP, "word"), ("and", ("is", BP, "number"), ("is", BQ, "word")))
        fourth = question(where, refs=(("a", "t"), ("b", "s")))
        self.assertEqual(self.check(store, fourth)[0], (((0,), ("a", "b"), (
            ("index", "p", (1, 1), ("true",)), ("index", "p", (1, 2, 1), ("true",)))),))
        empty = question(None, refs=(("a", "s"), ("b", "u"), ("c", "t")))
        self.assertEqual(self.check(store, empty)[0][0], ((0,), ("b", "a", "c"), (ROWS, ROWS, ROWS)))

    def accepted_courses(self, schema, asked, goal):
        """All accepted courses for a goal alone, without between paths."""
        indexes, tables = {table[0]: table[3] for table in schema}, dict(asked[0])
        places_of = [] if asked[1] is None else [place for place, _ in leaves(asked[1], (1,))]
        sets = [tuple(each for at, each in enumerate(OUTCOMES) if many >> at & 1) for many in range(1, 8)]
        for order in permutations([alias for alias, _ in asked[0]]):
            lists = []
            for at, alias in enumerate(order):
                paths = [("index", *path) for path in product(indexes[tables[alias]], places_of, sets)] + [ROWS, FIRST]
                lists.append([path for path in paths if self.fits(schema, asked, goal, order, at, path)])
            for paths in product(*lists):
                yield ((goal,), order, paths)

    def fits(self, schema, asked, goal, order, at, path):
        paths = tuple(path if k == at else ROWS for k in range(len(order)))
        try:
            look_at_course(schema, asked, (), goal_places(asked), ((goal,), order, paths))
            return True
        except Wrong:
            return False

    def never_fails(self, store, asked, part, place):
        """Whether a part fails for no values by its facts; numbers are tried at both ends of what they may be."""
        lists, columns = [], sorted(set(outside(part)))
        facts = facts_of(store, asked, place)
        for alias, name in columns:
            table = dict(asked[0])[alias]
            kinds = [kind for kind in KINDS if ("no", table, name, kind) not in facts]
            declared = [dict(entry[1])[name] for entry in store.schema if entry[0] == table][0]
            ends = [fact[3:] for fact in facts if fact[:3] == ("within", table, name)]
            values = {"nothing": [None], "word": ["a", "b"], "number": [end for pair in ends for end in pair]}
            lists.append([value for kind in kinds if kind in declared for value in values[kind]])
        starts = {alias: (alias,) for alias, _ in asked[0]}
        for values in product(*lists):
            if not Reading(dict(zip(columns, values)), starts, {}, {}).passes(part, place, starts):
                return False
        return True

    def test_drawn_stores_beside_all_accepted_courses(self):
        rng = random.Random(23)
        looked_at = omitted = 0
        while looked_at < 300:
            schema = some_schema(rng)
            schema = rng.choice((schema, all_kinds(schema), one_kind(schema, "number")))
            asked = some_question(rng, schema, rng.choice((1, 2, 2, 3)), 1)
            store = some_store(rng, schema, 3)
            plan = self.check(store, asked)
            parts = main_parts(asked)
            for at, place in enumerate(goal_places(asked)):
                if at:
                    can_be = not has_inner(parts[place]) and self.never_fails(store, asked, parts[place], place)
                    self.assertEqual(at in dict(plan[1]), can_be, (asked, place))
                    omitted += can_be
            for course in plan[0]:
                courses = list(self.accepted_courses(schema, asked, course[0][0]))
                if len(courses) < 400:
                    least = min((cost(store, asked, other), other) for other in courses)
                    self.assertEqual(course, least[1], asked)
                    looked_at += 1
        self.assertGreater(omitted, 60)
