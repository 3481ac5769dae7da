"""Engines: outcomes of the written run, by plans that are kept as long as their named facts are so."""

import random
import unittest

from failsalike.engine import Engine
from failsalike.facts import fact_holds
from failsalike.plans import chosen
from failsalike.stores import Store
from tests.chance import KINDS, all_kinds, some_question, some_schema, some_store, some_value
from tests.oracle import oracle_outcome
from tests.shop import NAME, ONE, PRICE, REFS, TWO, shop

R = 10**12


class Engines(unittest.TestCase):
    def asks(self, engine, store, asked, choices):
        """Asks, and looks at the outcome and how many plans were chosen by now."""
        self.assertEqual(engine.ask(asked), oracle_outcome(store, asked))
        self.assertEqual(engine.choices, choices)

    def test_the_examples(self):
        engine = Engine(shop())
        failures = [engine.ask(ONE)[1], engine.ask(TWO)[1], engine.ask(ONE)[1], engine.choices]
        self.assertEqual(failures, [("kind", (1, 2), (2, 1)), ("kind", (1, 1), (1, 0)), ("kind", (1, 2), (2, 1)), 2])
        self.assertEqual(Engine(store=shop()).ask(question=ONE), oracle_outcome(shop(), ONE))

    def test_facts_that_break_and_mend(self):
        store = Store()
        store.make("t", (("x", KINDS),), indexes=("x",))
        store.put("t", 3)
        store.put("t", 7)
        X = ("column", "a", "x")
        asked = ((("a", "t"),), ("less", X, ("value", 5)), (X,), (), None)
        engine = Engine(store)
        self.assertEqual(engine.choices, 0)
        self.asks(engine, store, asked, 1)
        self.asks(engine, store, asked, 1)
        self.assertEqual(chosen(store, asked)[2][-1], ("within", "t", "x", 3, 7))
        # Inside of what is known, then outside of it, and a word.
        store.put("t", 5)
        self.asks(engine, store, asked, 1)
        store.take("t", 0)
        self.asks(engine, store, asked, 1)
        store.put("t", 8)
        self.asks(engine, store, asked, 2)
        store.take("t", 3)
        self.asks(engine, store, asked, 2)
        store.put("t", "a")
        self.asks(engine, store, asked, 3)
        self.assertEqual(engine.ask(asked)[1], ("kind", (1,), (4,)))
        # A plan without facts is never broken.
        self.assertEqual(chosen(store, asked)[2], ())
        store.take("t", 4)
        self.asks(engine, store, asked, 3)
        store.put("t", None)
        self.asks(engine, store, asked, 3)

    def test_a_fact_that_breaks_and_mends_between_two_calls(self):
        store = shop()
        asked = (REFS[:1], None, (("plus", PRICE, 1),), (), None)
        store.take("item", 2)
        store.take("item", 1)
        engine = Engine(store)
        self.asks(engine, store, asked, 1)
        number = store.put("item", "hat", "dear")
        store.take("item", number)
        self.asks(engine, store, asked, 1)

    def test_limits_and_orders_make_other_questions(self):
        store = shop()
        engine = Engine(store)
        choices = 0
        for order in ((), (NAME,), (PRICE, NAME)):
            for limit in (None, 0, 1, 2):
                choices += 1
                asked = (REFS, None, (NAME, PRICE), order, limit)
                self.asks(engine, store, asked, choices)
                self.asks(engine, store, asked, choices)

    def test_an_engine_made_before_the_tables(self):
        store = Store()
        engine = Engine(store)
        store.make("t", (("x", KINDS),))
        X = ("column", "a", "x")
        asked = ((("a", "t"),), ("less", X, ("value", 5)), (X,), (), None)
        self.asks(engine, store, asked, 1)
        store.put("t", 3)
        self.asks(engine, store, asked, 2)
        store.make("a", (("x", KINDS),), keys=("x",))
        self.asks(engine, store, asked, 2)

    def test_a_second_engine_on_a_copy(self):
        store = shop()
        engine, other = Engine(store), Engine(store.copy())
        first = engine.ask(ONE)
        store.take("item", 0)
        self.assertEqual(other.ask(ONE), first)
        self.assertNotEqual(engine.ask(ONE), first)
        self.assertEqual([engine.choices, other.choices], [1, 1])

    def test_drawn_questions_between_which_rows_are_put_and_taken(self):
        rng = random.Random(51)
        for _ in range(40):
            schema = some_schema(rng)
            schema = all_kinds(schema) if rng.random() < 0.4 else schema
            store = some_store(rng, schema, 3)
            engine = Engine(store)
            questions = [some_question(rng, schema, 2, 1) for _ in range(3)]
            kept, choices = {}, 0
            for _ in range(12):
                asked = rng.choice(questions)
                if asked not in kept or not all(fact_holds(store, fact) for fact in kept[asked][2]):
                    kept[asked] = chosen(store, asked)
                    choices += 1
                self.asks(engine, store, asked, choices)
                self.change(rng, store)

    def change(self, rng, store):
        name, columns, keys, _ = rng.choice(store.schema)
        if rng.random() < 0.5 and store.rows(name):
            store.take(name, rng.choice(store.rows(name))[0])
        elif not keys and len(store.rows(name)) < 5:
            store.put(name, *[some_value(rng, kinds) for _, kinds in columns])
