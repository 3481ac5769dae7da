"""Runs beside a second run that the tests write down in another way, and beside the written run."""

import random
import unittest

from failsalike.errors import Failed, NoCourse, NoPlan, Outdated
from failsalike.goals import goals_of
from failsalike.paths import cost
from failsalike.plans import plan_holds
from failsalike.runs import Run
from failsalike.stores import Store
from tests.chance import KINDS, all_kinds, some_question, some_schema, some_store
from tests.oracle import oracle_outcome
from tests.planning import right_plan
from tests.samples import anything
from tests.secondrun import SecondRun
from tests.shop import ONE, shop

R = 10**12
END = ("end",)
SCHEMA = (
    ("s", (("p", KINDS),), (), ("p",)),
    ("t", (("p", KINDS),), (), ("p",)),
    ("u", (("p", KINDS),), (), ()),
)
AP, BP, CP = [("column", alias, "p") for alias in "abc"]
REFS = (("a", "s"), ("b", "t"))
ROWS, FIRST = ("rows",), ("first",)
COURSE = ((2,), ("i", "s"), (("index", "price", (1, 2), ("fails",)), ROWS))
REST = ((0, 1), ("i", "s"), (ROWS, ROWS))


def store_of(**values):
    store = Store.of(SCHEMA)
    for name, column in values.items():
        for value in column:
            store.put(name, value)
    return store


def question(where, *told, refs=REFS, order=(), limit=None):
    return (refs, where, told or (AP,), order, limit)


def everything(asked, *orders):
    """A plan of courses that fetch all rows for all goals, in orders of the refs."""
    goals = tuple(range(len(goals_of(asked))))
    orders = orders or (tuple(alias for alias, _ in asked[0]),)
    return (tuple((goals, order, (ROWS,) * len(order)) for order in orders), (), ())


class Together(unittest.TestCase):
    """A run and the second run."""

    def begin(self, store, asked, plan):
        self.store, self.asked, self.plan = store.copy(), asked, plan
        self.expected = oracle_outcome(store, asked)
        self.run, self.second = Run(store, asked, plan), SecondRun(store, asked, plan)
        self.look()

    def step(self, course=0, worker=0):
        made = self.run.step(course, worker)
        self.assertEqual(made, self.second.step(course, worker))
        self.look()
        return made

    def look(self):
        """Looks at all that a run tells at a moment."""
        run, second = self.run, self.second
        self.assertEqual(run.frontier, second.frontier)
        self.assertEqual(run.bound, second.bound)
        self.assertIs(run.ended, second.frontier is None)
        self.assertEqual(run.told, second.told)
        self.assertEqual(run.steps, second.steps)
        self.assertEqual({alias: run.reads(alias) for alias, _ in self.asked[0]}, second.reads)
        if self.asked[3] == ():
            rows = [row for row in self.expected[0] if run.frontier is None or row[0] < run.frontier]
            if run.frontier in second.found and second.found[run.frontier][0] == "match":
                rows += [row for row in self.expected[0] if row[0] == run.frontier]
            self.assertEqual(run.told, tuple(rows))
        elif not run.ended:
            self.assertEqual(run.told, ())

    def end(self):
        """Ends the run; what it tells at last."""
        self.assertEqual(self.run.outcome(), self.expected)
        self.assertTrue(self.run.ended)
        self.assertIsNone(self.run.frontier)
        self.assertEqual(self.run.told, self.expected[0])
        for course in range(len(self.plan[0])):
            self.assertIsNone(self.run.step(course, 7))
        self.assertEqual(self.run.outcome(), self.expected)
        return self.expected


class Steps(Together):
    def test_the_examples(self):
        run = Run(shop(), ONE, ((REST, COURSE), (), ()))
        self.assertEqual([run.step(1), run.step(1), run.frontier, run.bound, run.told], [("i", 1), ("s", 0), (0, 0), None, ()])
        self.assertEqual(run.outcome(), ((((0, 0), ("cup",)),), ("kind", (1, 2), (2, 1))))
        self.assertEqual([run.ended, run.bound], [True, (2, 1)])
        self.begin(shop(), ONE, ((REST, COURSE), (), ()))
        self.end()
        run = Run(store=shop(), question=ONE, plan=((REST, COURSE), (), ()), trusted=False)
        self.assertEqual(run.step(course=1, worker=4), ("i", 1))
        self.assertEqual(run.reads(alias="i"), 1)

    def test_one_course_and_one_worker(self):
        store = store_of(s=[1, 2], t=[3, 4])
        asked = question(("less", AP, BP))
        self.begin(store, asked, everything(asked))
        for expected, told in (
            (("a", 0), 0), (("b", 0), 1), (("b", 1), 2), (("a", 1), 2), (("b", 0), 3), (("b", 1), 4), (None, 4), (None, 4),
        ):
            self.assertEqual(self.step(), expected)
            self.assertEqual(len(self.run.told), told)
        self.assertEqual(self.run.steps, 6)
        self.assertEqual([self.run.reads("a"), self.run.reads("b")], [2, 4])
        self.end()

    def test_workers_have_their_own_rows(self):
        store = store_of(s=[1, 2, 3], t=[3, 4])
        asked = question(None)
        self.begin(store, asked, everything(asked))
        self.assertEqual([self.step(0, 5), self.step(0, 0), self.step(0, 10**6)], [("a", 0), ("a", 1), ("a", 2)])
        self.assertEqual(self.run.frontier, (0, 0))
        # No row is left of the outermost loop for another worker.
        self.assertIsNone(self.step(0, 1))
        self.assertEqual([self.step(0, 0), self.step(0, 0), self.step(0, 0)], [("b", 0), ("b", 1), None])
        self.assertEqual(self.run.told, ())
        self.assertEqual([self.step(0, 5), self.run.told], [("b", 0), (((0, 0), (1,)),)])
        self.assertEqual([self.step(0, 10**6), self.run.frontier], [("b", 0), (0, 1)])
        self.assertEqual([self.step(0, 5), self.run.frontier], [("b", 1), (2, 1)])
        self.assertEqual(len(self.run.told), 5)
        self.end()

    def test_the_worker_and_the_course_that_are_meant(self):
        store = store_of(s=[1, 2], t=[3, 4])
        asked = question(None)
        run = Run(store, asked, everything(asked, ("a", "b"), ("b", "a")))
        self.assertEqual([run.step(), run.step(0, 0), run.step(0, 1), run.step(course=0)],
                         [("a", 0), ("b", 0), ("a", 1), ("b", 1)])
        self.assertEqual([run.step(1), run.step(worker=1)], [("b", 0), ("b", 0)])

    def test_the_row_of_the_frontier(self):
        # Two courses find the match; it is told while the other one has still to find it.
        store = store_of(s=[1], t=[3])
        asked = question(None)
        self.begin(store, asked, everything(asked, ("a", "b"), ("b", "a")))
        self.step(0)
        self.step(0)
        self.assertEqual([self.run.frontier, self.run.told, self.run.ended], [(0, 0), (((0, 0), (1,)),), False])
        self.end()
        self.assertEqual(self.run.steps, 4)

    def test_a_course_that_sleeps_keeps_back_what_lies_behind(self):
        store = store_of(s=[1, 2], t=[3, "a"])
        asked = question(("less", AP, BP))
        match, fails = ((0,), ("a", "b"), (ROWS, ROWS)), ((1,), ("b", "a"), (ROWS, ROWS))
        self.begin(store, asked, ((match, fails), (), ()))
        while self.step(0) is not None:
            pass
        self.assertEqual([self.run.frontier, len(self.run.told), self.run.bound], [(0, 0), 1, None])
        self.step(1)
        self.step(1)
        self.step(1)
        self.assertEqual([self.run.frontier, len(self.run.told)], [(0, 1), 1])
        self.assertEqual(self.end()[1], ("kind", (1,), (0, 1)))

    def test_no_row_is_fetched_behind_the_bound(self):
        store = store_of(s=[1, 2, 3, 4], t=["a", 3, 4, 5])
        asked = question(("less", AP, BP))
        self.begin(store, asked, everything(asked))
        self.end()
        self.assertEqual([self.run.steps, self.run.bound], [2, (0, 0)])
        self.begin(store, asked, everything(asked, ("b", "a")))
        self.end()
        # The row 1 of b may still belong to combinations before (0, 0)? No: all lie behind.
        self.assertEqual([self.run.steps, self.run.bound], [2, (0, 0)])
        self.begin(store_of(s=[1, 2, 3, 4], t=[3, "a", 4, 5]), asked, everything(asked, ("b", "a")))
        self.end()
        self.assertEqual([self.run.reads("b"), self.run.bound], [2, (0, 1)])

    def test_limits(self):
        store = store_of(s=[1, 2], t=[3, "a", 4])
        asked = question(("or", ("is", BP, "word"), ("less", AP, BP)), BP)
        fails = question(("less", AP, BP), BP)
        for base in (asked, fails):
            for limit in (0, 1, 2, 3, 4, None):
                limited = (*base[:4], limit)
                for orders in ((("a", "b"),), (("b", "a"),), (("a", "b"), ("b", "a"))):
                    self.begin(store, limited, everything(limited, *orders))
                    if limit == 0:
                        self.assertEqual([self.run.frontier, self.run.ended, self.run.step()], [None, True, None])
                        self.assertEqual([self.run.bound, self.run.steps], [None, 0])
                    while self.step(0, 0) is not None or self.step(len(orders) - 1, 1) is not None:
                        pass
                    self.end()

    def test_limits_beside_a_failure(self):
        store = store_of(s=[1], t=[3, "a", 4])
        for limit, expected in (
            (1, ((((0, 0), (3,)),), None)), (2, ((((0, 0), (3,)),), ("kind", (1,), (0, 1)))),
        ):
            asked = question(("less", AP, BP), BP, limit=limit)
            # The failure is found first: it lies behind the bound at last.
            courses = (((0,), ("a", "b"), (ROWS, ROWS)), ((1,), ("a", "b"), (ROWS, ROWS)))
            self.begin(store, asked, (courses, (), ()))
            while self.step(1) is not None:
                pass
            self.assertEqual(self.run.bound, (0, 1))
            self.assertEqual(self.end(), expected)
            self.assertEqual(self.run.bound, (0, 0) if limit == 1 else (0, 1))
            stream = self.run.stream()
            if limit == 1:
                self.assertEqual(list(stream), [((0, 0), (3,))])
            else:
                self.assertEqual(next(stream), ((0, 0), (3,)))
                with self.assertRaises(Failed):
                    next(stream)

    def test_orders(self):
        store = store_of(s=[2, None, "a", 1, None], t=[5])
        for order in ((AP,), (BP, AP), (AP, AP), (BP,)):
            for limit in (None, 0, 1, 3, 9):
                asked = question(None, AP, order=order, limit=limit)
                self.begin(store, asked, everything(asked, ("b", "a")))
                while self.step(0, 0) is not None:
                    pass
                self.end()
        asked = question(("less", AP, ("value", 9)), AP, order=(AP,))
        self.begin(store, asked, everything(asked))
        self.assertEqual(self.end(), ((), ("kind", (1,), (1, 0))))
        self.assertEqual(list(Run(store, question(None, AP, order=(AP,), limit=2), everything(question(None))).stream()),
                         [((1, 0), (None,)), ((4, 0), (None,))])

    def test_empty_tables(self):
        asked = question(("less", AP, BP))
        for values in (dict(s=[1, 2]), dict(t=[1, 2]), {}):
            for order in (("a", "b"), ("b", "a")):
                store = store_of(**values)
                self.begin(store, asked, everything(asked, order))
                self.assertEqual([self.run.ended, self.step(), self.run.steps], [True, None, 0])
                self.assertEqual(self.end(), ((), None))

    def test_no_goal_is_possible(self):
        asked = question(("and", ("less", ("value", 3), ("value", 1)), ("less", AP, BP)))
        store = store_of(s=[1], t=["a"])
        self.begin(store, asked, everything(asked))
        # What names no ref is known before any row is fetched.
        self.assertEqual([self.run.ended, self.step(), self.run.steps], [True, None, 0])
        self.end()
        only = question(("or", ("less", ("value", 1), ("value", 3)), ("less", AP, BP)))
        self.begin(store, only, ((((0,), ("a", "b"), (ROWS, ROWS)), ((1,), ("a", "b"), (ROWS, ROWS)),
                                  ((2,), ("b", "a"), (ROWS, ROWS))), (), ()))
        self.assertEqual([self.step(1), self.step(2), self.step(0)], [None, None, ("a", 0)])
        self.end()

    def test_rows_are_dropped(self):
        store = store_of(s=[1, "a", 5], t=[3, 3])
        asked = question(("and", ("is", AP, "number"), ("less", AP, BP)))
        self.begin(store, asked, everything(asked))
        made = []
        while (step := self.step()) is not None:
            made.append(step)
        self.assertEqual(made, [("a", 0), ("b", 0), ("b", 1), ("a", 1), ("a", 2), ("b", 0), ("b", 1)])

    def test_plans_without_courses(self):
        none = tuple(("no", "s", "p", kind) for kind in KINDS)
        asked = question(("less", AP, BP))
        run = Run(store_of(t=[3]), asked, ((), ((0, END), (1, END)), none))
        self.assertEqual([run.ended, run.outcome(), run.steps, list(run.stream())], [True, ((), None), 0, []])
        with self.assertRaises(NoCourse):
            run.step()

    def test_no_course(self):
        asked = question(None)
        run = Run(store_of(s=[1], t=[2]), asked, everything(asked))
        for ended in (False, True):
            for course in (1, 2, -1, 10**9, -2):
                with self.assertRaises(NoCourse) as caught:
                    run.step(course)
                self.assertEqual(caught.exception.number, course)
            self.assertIs(run.ended, ended)
            self.assertEqual(run.steps, 2 if ended else 0)
            run.outcome()

    def test_no_plan(self):
        store = store_of(s=[1], t=[2])
        asked = question(("less", AP, BP))
        for plan in anything() + [((), (), ()), ((((0,), ("a", "b"), (ROWS, ROWS)),), (), ())]:
            with self.assertRaises(NoPlan):
                Run(store, asked, plan)
        # By a paper that is none; it is not looked at if the plan is trusted.
        missing = ((((0,), ("a", "b"), (ROWS, ROWS)),), ((1, None),), ())
        with self.assertRaises(NoPlan):
            Run(store, asked, missing)
        self.assertEqual(Run(store, asked, missing, trusted=True).outcome(), ((((0, 0), (1,)),), None))

    def test_outdated(self):
        facts = (("no", "s", "p", "nothing"), ("no", "t", "p", "nothing"), ("within", "s", "p", 0, 3), ("within", "t", "p", 1, 1))
        asked = question(None)
        plan = (*everything(asked)[:2], facts)
        self.assertEqual(Run(store_of(s=[1], t=[1]), asked, plan).outcome()[1], None)
        for values, first in (
            (dict(s=[None, 9], t=[9]), 0), (dict(s=[9], t=[None]), 1), (dict(s=[9], t=[2]), 2), (dict(s=[3], t=[2]), 3),
        ):
            for trusted in (False, True):
                with self.assertRaises(Outdated) as caught:
                    Run(store_of(**values), asked, plan, trusted=trusted)
                self.assertEqual(caught.exception.fact, facts[first])
        # A plan that is not accepted is told first.
        with self.assertRaises(NoPlan):
            Run(store_of(s=[None], t=[1]), asked, ((), (), facts))
        with self.assertRaises(Outdated):
            Run(store_of(s=[None], t=[1]), asked, ((), (), facts), trusted=True)

    def test_rows_that_are_put_and_taken_while_a_run_goes_on(self):
        store = store_of(s=[1, 2], t=[3, 4])
        asked = question(("less", AP, BP))
        expected = oracle_outcome(store, asked)
        run = Run(store, asked, everything(asked))
        run.step()
        store.take("s", 0)
        store.take("t", 1)
        store.put("s", "a")
        store.put("t", None)
        self.assertEqual(run.outcome(), expected)
        self.assertEqual(Run(store, asked, everything(asked)).outcome(), oracle_outcome(store, asked))


class Streams(Together):
    def test_before_amid_and_after_steps(self):
        store = store_of(s=[1, 2, 3], t=[4, 5])
        asked = question(("less", AP, BP))
        rows = list(oracle_outcome(store, asked)[0])
        for before in range(10):
            run = Run(store, asked, everything(asked, ("b", "a")))
            for _ in range(before):
                run.step(0, before % 2)
            stream = run.stream()
            self.assertEqual(next(stream), rows[0])
            run.step(0, 1)
            self.assertEqual([next(stream), next(stream)], rows[1:3])
            run.outcome()
            self.assertEqual(list(stream), rows[3:])
            self.assertEqual(list(run.stream()), rows)

    def test_no_more_steps_than_needed(self):
        store = store_of(s=[1, 2, 3], t=[4, 5])
        asked = question(None)
        run = Run(store, asked, everything(asked))
        stream = run.stream()
        self.assertEqual(run.steps, 0)
        next(stream)
        self.assertEqual(run.steps, 2)
        next(stream)
        self.assertLessEqual(run.steps, 4)
        other = Run(store, asked, everything(asked))
        other.step()
        other.step()
        self.assertEqual([next(other.stream()), other.steps], [((0, 0), (1,)), 2])

    def test_two_streams_of_one_run(self):
        store = store_of(s=[1, 2], t=[4, "a"])
        asked = question(("less", AP, BP))
        run = Run(store, asked, everything(asked))
        one, other = run.stream(), run.stream()
        self.assertEqual([next(one), next(other)], [((0, 0), (1,))] * 2)
        for stream in (other, one):
            with self.assertRaises(Failed) as caught:
                next(stream)
            failure = caught.exception
            self.assertEqual((failure.word, failure.place, failure.numbers), ("kind", (1,), (0, 1)))
        self.assertEqual(run.outcome()[1], ("kind", (1,), (0, 1)))

    def test_streams_end_behind_the_run(self):
        store = store_of(s=[1, 2], t=[4])
        asked = question(("less", AP, ("value", 2)), limit=1)
        for plan in (everything(asked), everything(asked, ("b", "a"), ("a", "b"))):
            run = Run(store, asked, plan)
            self.assertEqual(list(run.stream()), [((0, 0), (1,))])
            self.assertTrue(run.ended)
        empty = Run(store_of(), asked, plan)
        self.assertEqual([list(empty.stream()), empty.ended], [[], True])

    def test_workers_of_others_are_stepped_too(self):
        store = store_of(s=[1, 2, 3], t=[4, 5])
        asked = question(None)
        run = Run(store, asked, everything(asked))
        run.step(0, 9)
        run.step(0, 4)
        self.assertEqual(len(list(run.stream())), 6)


class Drawn(Together):
    def some_case(self, rng):
        schema = some_schema(rng)
        schema = all_kinds(schema) if rng.random() < 0.5 else schema
        asked = some_question(rng, schema, rng.choice((1, 2, 2, 3)), rng.choice((0, 1)), 0.2, 0.4)
        store = some_store(rng, schema, 3)
        return schema, asked, store, right_plan(rng, schema, store, asked)

    def test_steps_by_turns_and_by_draws(self):
        rng = random.Random(41)
        failing = 0
        for at in range(350):
            schema, asked, store, plan = self.some_case(rng)
            self.assertTrue(plan_holds(schema, asked, plan))
            self.begin(store, asked, plan)
            workers = rng.choice(([0], [0, 1], [5, 0, 7], [3, 9, 1000, 2, 1]))
            awake = rng.sample(range(len(plan[0])), rng.randint(1, len(plan[0]))) if plan[0] else []
            for turn in range(rng.randint(0, 40) if awake else 0):
                if at % 2:
                    self.step(awake[turn % len(awake)], workers[turn % len(workers)])
                else:
                    self.step(rng.choice(awake), rng.choice(workers))
                if rng.random() < 0.05:
                    # Nothing that is put or taken later changes a run.
                    for name, _, _, _ in schema:
                        if store.rows(name):
                            store.take(name, store.rows(name)[0][0])
            failing += self.end()[1] is not None
        self.assertGreater(failing, 80)

    def test_costs_and_streams(self):
        rng = random.Random(42)
        for _ in range(200):
            schema, asked, store, plan = self.some_case(rng)
            for at, course in enumerate(plan[0]):
                run = Run(store, asked, plan)
                made = 0
                while run.step(at, made % 3) is not None:
                    made += 1
                self.assertEqual(run.steps, made)
                self.assertLessEqual(made, cost(store, asked, course))
            rows, failure = [], None
            run = Run(store, asked, plan)
            for _ in range(rng.randint(0, 9)):
                run.step(rng.randrange(len(plan[0])), rng.randrange(3)) if plan[0] else None
            try:
                for row in run.stream():
                    rows.append(row)
            except Failed as failed:
                failure = (failed.word, failed.place, failed.numbers)
            self.assertEqual((tuple(rows), failure), oracle_outcome(store, asked))

    def test_trusted_plans_that_are_not_accepted_cost_no_more(self):
        rng = random.Random(43)
        for _ in range(100):
            schema, asked, store, plan = self.some_case(rng)
            courses = tuple((course[0][:1], course[1], (FIRST,) * len(course[1])) for course in plan[0])
            run = Run(store, asked, (courses, (), ()), trusted=True)
            run.outcome()
            self.assertLessEqual(run.steps, sum(cost(store, asked, course) for course in courses))
