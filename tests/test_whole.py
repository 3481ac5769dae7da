"""The whole program: runs by drawn plans beside the written run, and the same under other names and limits."""

import random
import unittest

from failsalike.engine import Engine
from failsalike.guards import guarded
from failsalike.ledgers import true_plan
from failsalike.errors import NotPlain, TooGreat
from failsalike.plans import chosen, plan_holds
from failsalike.questions import exchanged, is_question
from failsalike.questiontexts import read_question, show_question
from failsalike.runs import Run
from failsalike.stores import Store
from failsalike.storetexts import read_store, show_store
from failsalike.written import outcome
from tests.chance import all_kinds, some_question, some_schema, some_store
from tests.oracle import oracle_outcome
from tests.planning import right_plan

OTHERS = {"t": "zz", "u": "b", "v": "key", "p": "q", "q": "where", "x": "limit", "y": "x"}


def some_case(rng):
    schema = some_schema(rng)
    schema = all_kinds(schema) if rng.random() < 0.5 else schema
    return schema, some_question(rng, schema, rng.choice((1, 2, 2, 3)), rng.choice((0, 1, 2))), some_store(rng, schema, 3)


def drawn_run(rng, store, asked, plan):
    """A run of which some steps are made by draws."""
    run = Run(store, asked, plan)
    for _ in range(rng.randint(0, 30) if plan[0] else 0):
        run.step(rng.randrange(len(plan[0])), rng.choice((0, 1, 2, 50)))
    return run


class Whole(unittest.TestCase):
    def test_runs_beside_the_written_run(self):
        rng = random.Random(71)
        for _ in range(250):
            schema, asked, store = some_case(rng)
            expected = oracle_outcome(store, asked)
            self.assertEqual(outcome(store, asked), expected)
            plan = right_plan(rng, schema, store, asked)
            self.assertEqual(drawn_run(rng, store, asked, plan).outcome(), expected)
            self.assertEqual(Run(store, asked, chosen(store, asked)).outcome(), expected)
            self.assertEqual(Engine(store).ask(asked), expected)

    def test_guarded_questions_by_plans(self):
        rng = random.Random(72)
        for _ in range(120):
            schema, asked, store = some_case(rng)
            safe = guarded(asked)
            expected = oracle_outcome(store, asked)
            plan = right_plan(rng, schema, store, safe)
            rows, failure = drawn_run(rng, store, safe, plan).outcome()
            self.assertIsNone(failure)
            self.assertEqual((rows, failure), oracle_outcome(store, safe))
            if expected[1] is None:
                self.assertEqual(rows, expected[0])
            self.assertEqual(Engine(store).ask(safe), (rows, None))

    def test_limits_beside_the_next_ones(self):
        rng = random.Random(73)
        for _ in range(60):
            schema, asked, store = some_case(rng)
            engine = Engine(store)
            before = ((), None)
            for limit in range(5):
                limited = (*asked[:4], limit)
                plan = right_plan(rng, schema, store, limited)
                now = drawn_run(rng, store, limited, plan).outcome()
                self.assertEqual(now, engine.ask(limited))
                self.assertEqual(now[0][: len(before[0])], before[0])
                self.assertLessEqual(len(now[0]), limit)
                if before[1] is not None and asked[3] == ():
                    self.assertEqual(now, before)
                before = now

    def renamed(self, thing):
        """A schema or a question with other names; aliases stay as they are."""
        if isinstance(thing, tuple):
            if thing[:1] == ("column",):
                return ("column", thing[1], OTHERS[thing[2]])
            if thing[:1] == ("value",):
                return thing
            return tuple(self.renamed(part) for part in thing)
        return OTHERS.get(thing, thing)

    def test_the_same_under_other_names(self):
        rng = random.Random(74)
        for _ in range(80):
            schema, asked, store = some_case(rng)
            other = Store()
            for name, columns, keys, indexes in schema:
                columns = tuple((OTHERS[column], kinds) for column, kinds in columns)
                other.make(OTHERS[name], columns, keys=tuple(sorted(OTHERS[key] for key in keys)),
                           indexes=tuple(sorted(OTHERS[index] for index in indexes)))
                taken = 0
                for number, values in store.rows(name):
                    for _ in range(number - taken):
                        self.gap(other, OTHERS[name], values)
                    other.put(OTHERS[name], *values)
                    taken = number + 1
            same = (tuple((alias, OTHERS[table]) for alias, table in asked[0]), *self.renamed(asked[1:]))
            self.assertTrue(is_question(other.schema, same))
            self.assertEqual(oracle_outcome(other, same), oracle_outcome(store, asked))
            self.assertEqual(Engine(other).ask(same), Engine(store).ask(asked))
            plan = right_plan(rng, other.schema, other, same)
            self.assertEqual(drawn_run(rng, other, same, plan).outcome(), Engine(store).ask(asked))

    def gap(self, store, table, values):
        store.take(table, store.put(table, *values))

    def test_texts_of_all_that_is_run(self):
        rng = random.Random(75)
        for _ in range(60):
            schema, asked, store = some_case(rng)
            again, same = read_store(show_store(store)), read_question(schema, show_question(asked))
            self.assertEqual(Engine(again).ask(same), oracle_outcome(store, asked))
            self.assertEqual(chosen(again, same), chosen(store, asked))

    def test_plans_for_a_question_and_for_it_exchanged(self):
        rng = random.Random(76)
        made = 0
        while made < 60:
            schema, asked, store = some_case(rng)
            if asked[1] is not None and asked[1][0] in ("and", "or"):
                made += 1
                other = exchanged(asked, (1,))
                self.assertEqual(Engine(store).ask(other), oracle_outcome(store, other))
                for one, two in ((asked, other), (other, asked)):
                    plan = chosen(store, one)
                    if plan_holds(schema, two, plan):
                        self.assertEqual(Run(store, two, plan).outcome(), oracle_outcome(store, two))

    def test_accepted_plans_are_true(self):
        rng = random.Random(77)
        answers = []
        while len(answers) < 60:
            schema, asked, store = some_case(rng)
            plan = right_plan(rng, schema, store, asked)
            try:
                answers.append(true_plan(schema, asked, plan, limit=500)[0])
            except (NotPlain, TooGreat):
                continue
            self.assertEqual(answers[-1], "true", (schema, asked, plan))
