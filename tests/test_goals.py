"""[11], [12], [13] and the functions of failsalike.goals."""

import copy
import random
import unittest
from itertools import permutations, product

from failsalike.goals import goal_of, goals_of, outcomes_of, possible, tested
from failsalike.questions import main_parts, named, part_at
from failsalike.written import combinations, result_of
from tests import chance
from tests.oracle import Oracle
from tests.shop import CHEAP, NAME, ONE, PRICE, REFS, SOLD, TWO, shop

COUNT = ("column", "s", "count")
KPRICE = ("column", "k", "price")
IS, IS_NOT = ("is", NAME, "word"), ("is", ("plus", COUNT, 1), "word")
SUM = ("plus", COUNT, 1)


def inner(condition, alias="k"):
    return (((alias, "item"),), condition)


def ask(where=None, *told):
    return (REFS, where, told or (NAME,), (), None)


QUIET = ("exists", inner(("is", KPRICE, "word")))
LOUD = ("exists", inner(("less", KPRICE, PRICE)))


class GoalsOf(unittest.TestCase):
    def test_the_examples(self):
        self.assertEqual(goals_of(ONE), ((), (1, 1), (1, 2)))
        self.assertEqual(goals_of(question=TWO), ((), (1, 1), (1, 2)))

    def test_leaves_that_can_fail(self):
        leaves = [("less", ("value", 1), ("value", 2)), ("most", PRICE, COUNT), ("same", NAME, NAME), IS_NOT, LOUD]
        leaves += [("is", ("only", inner(("is", NAME, "word")), NAME), "word"), ("exists", inner(("is", SUM, "word")))]
        leaves += [("is", ("first", inner(("same", NAME, NAME)), NAME), "word"), ("exists", inner(("not", CHEAP)))]
        leaves += [("is", ("first", inner(IS), ("plus", KPRICE, 0)), "word"), ("exists", inner(("or", IS, SOLD)))]
        for leaf in leaves:
            self.assertEqual(goals_of(ask(leaf)), ((), (1,)))
            self.assertEqual(goals_of(ask(("not", ("and", IS, leaf)))), ((), (1, 1, 2)))

    def test_leaves_that_cannot_fail(self):
        leaves = [IS, ("is", ("value", "plus"), "number"), QUIET, ("is", ("first", inner(IS), KPRICE), "nothing")]
        leaves += [("exists", inner(("and", IS, ("not", ("is", KPRICE, "word")))))]
        for leaf in leaves:
            self.assertEqual(goals_of(ask(leaf)), ((),))
            self.assertEqual(goals_of(ask(("or", leaf, SOLD))), ((), (1, 2)))

    def test_told_terms(self):
        can = (SUM, ("only", inner(IS), NAME), ("first", inner(CHEAP), NAME), ("first", inner(IS), SUM), ("plus", SUM, 1))
        cannot = (NAME, ("value", "only"), ("value", None), ("first", inner(IS), KPRICE))
        for one, other in product(can, cannot):
            self.assertEqual(goals_of(ask(None, one, other)), ((), (2, 0)))
            self.assertEqual(goals_of(ask(IS, other, one)), ((), (2, 1)))
            self.assertEqual(goals_of(ask(CHEAP, other, one, other, one)), ((), (1,), (2, 1), (2, 3)))

    def test_orders_and_limits_do_not_matter(self):
        self.assertEqual(goals_of((REFS, None, (NAME,), (PRICE,), 0)), ((),))


class GoalOf(unittest.TestCase):
    def test_of_results(self):
        question = ask(("and", ("not", LOUD), ("or", IS, ("less", SUM, PRICE))), NAME, SUM, ("only", inner(IS, "l"), SUM))
        self.assertEqual(goals_of(question), ((), (1, 1, 1), (1, 2, 2), (2, 1), (2, 2)))
        self.assertIsNone(goal_of(question, ("none",)))
        self.assertEqual(goal_of(question, ("match", ("a", 1, 1))), 0)
        places = {(1, 1, 1, 1, 1): 1, (1, 2, 2): 2, (1, 2, 2, 1): 2, (2, 1): 3, (2, 2): 4, (2, 2, 2): 4}
        for place, goal in places.items():
            self.assertEqual(goal_of(question, ("fails", "kind", place, (0, 0, 1))), goal)

    def test_of_all_combinations_of_the_shop(self):
        got = [goal_of(question=ONE, result=result_of(shop(), ONE, at)) for at in combinations(shop(), REFS)]
        self.assertEqual(got, [0, None, None, None, None, 2])
        got = [goal_of(TWO, result_of(shop(), TWO, at)) for at in combinations(shop(), REFS)]
        self.assertEqual(got, [0, None, 1, 1, 1, 1])


ALL, SURE = ("true", "false", "fails"), ("true", "false")


class OutcomesOf(unittest.TestCase):
    def check(self, question, known, place, expected):
        before = copy.deepcopy((question, known))
        self.assertEqual(outcomes_of(question, known, place), expected)
        self.assertEqual((question, known), before)

    def test_by_the_form_alone(self):
        for leaf, expected in ((IS, SURE), (IS_NOT, ALL), (CHEAP, ALL), (QUIET, SURE), (LOUD, ALL)):
            self.check(ask(leaf), (), (1,), expected)
            self.check(ask(("not", leaf)), (), (1,), expected)
        for term, expected in ((NAME, ("true",)), (SUM, ("true", "fails")), (("only", inner(IS), NAME), ("true", "fails"))):
            self.check(ask(None, NAME, term), (), (2, 1), expected)

    def test_known_ones(self):
        for outcome in ALL:
            self.check(ask(CHEAP), (((1,), outcome),), (1,), (outcome,))
            self.check(ask(IS), (((1,), outcome),), (1,), (outcome,))
        for outcome in ("true", "fails"):
            self.check(ask(CHEAP, SUM), (((1,), "false"), ((2, 0), outcome)), (2, 0), (outcome,))
        self.check(ask(("not", CHEAP)), (((1, 1), "true"),), (1,), ("false",))
        self.check(ask(("not", CHEAP)), (((1, 1), "false"),), (1,), ("true",))
        self.check(ask(("not", ("not", CHEAP))), (((1, 1, 1), "fails"),), (1,), ("fails",))

    def test_and_or(self):
        outcomes = ("true", "false", "fails")
        for one, other in product(outcomes, outcomes):
            known = (((1, 1), one), ((1, 2), other))
            self.check(ask(("and", CHEAP, SOLD)), known, (1,), (other if one == "true" else one,))
            self.check(ask(("or", CHEAP, SOLD)), known, (1,), (other if one == "false" else one,))
        for word, going_on in (("and", "true"), ("or", "false")):
            for second in outcomes:
                expected = tuple(word for word in outcomes if word == second or word != going_on)
                self.check(ask((word, CHEAP, SOLD)), (((1, 2), second),), (1,), expected)
                expected = tuple(word for word in SURE if word == second or word != going_on)
                expected += ("fails",) if second == "fails" else ()
                self.check(ask((word, IS, SOLD)), (((1, 2), second),), (1,), expected)
            self.check(ask((word, CHEAP, SOLD)), (), (1,), ALL)
            self.check(ask((word, IS, QUIET)), (), (1,), SURE)
            self.check(ask((word, IS, SOLD)), (((1, 1), going_on),), (1,), ALL)

    def test_parts_of_where(self):
        question = ask(("and", ("not", ("or", IS, CHEAP)), QUIET))
        self.check(question, (((1, 1, 1, 1), "true"),), (1, 1, 1), ("true",))
        self.check(question, (((1, 1, 1, 1), "true"),), (1, 1), ("false",))
        self.check(question, (((1, 1, 1, 1), "true"),), (1,), ("false",))
        self.check(question, (((1, 1, 1, 1), "true"),), (1, 2), SURE)
        self.check(question, (((1, 1, 1, 1), "false"), ((1, 2), "true")), (1,), ALL)
        self.check(question, (((1, 1, 1, 2), "fails"), ((1, 2), "true")), (1,), ("false", "fails"))

    def test_by_name(self):
        self.assertEqual(outcomes_of(place=(1, 1), known=(), question=ONE), ALL)


class Possible(unittest.TestCase):
    def check(self, question, known, *expected):
        self.assertEqual(possible(question, known), expected, known)

    def test_the_examples(self):
        self.check(ONE, (), 0, 1, 2)
        self.check(ONE, (((1, 2), "fails"),), 1, 2)
        self.assertEqual(possible(known=(), question=ONE), (0, 1, 2))

    def test_leaves_behind_and_and_or(self):
        for word, going_on, decides in (("and", "true", "false"), ("or", "false", "true")):
            question = ask((word, CHEAP, SOLD))
            matches = () if decides == "false" else (0,)
            self.check(question, (((1, 1), decides),), *matches)
            self.check(question, (((1, 1), going_on),), 0, 2)
            self.check(question, (((1, 1), "fails"),), 1)
            self.check(question, (((1, 1), going_on), ((1, 2), "fails")), 2)
            self.check(question, (((1, 1), going_on), ((1, 2), "true")), 0)
            self.check(question, (((1, 1), going_on), ((1, 2), "false")))

    def test_the_second_one_decides(self):
        self.check(ask(("and", CHEAP, SOLD)), (((1, 2), "false"),), 1)
        self.check(ask(("or", CHEAP, SOLD)), (((1, 2), "true"),), 0, 1)

    def test_several_deep(self):
        question = ask(("and", ("not", ("or", IS, CHEAP)), ("or", QUIET, ("and", SOLD, IS_NOT))))
        self.assertEqual(goals_of(question), ((), (1, 1, 1, 2), (1, 2, 2, 1), (1, 2, 2, 2)))
        self.check(question, (), 0, 1, 2, 3)
        self.check(question, (((1, 1, 1, 1), "true"),))
        self.check(question, (((1, 1, 1, 2), "true"),))
        self.check(question, (((1, 1, 1, 2), "fails"),), 1)
        self.check(question, (((1, 2, 1), "true"),), 0, 1)
        self.check(question, (((1, 2, 1), "false"), ((1, 2, 2, 1), "true")), 0, 1, 3)
        self.check(question, (((1, 2, 1), "false"), ((1, 2, 2, 1), "false")), 1)
        self.check(question, (((1, 1, 1, 2), "false"), ((1, 2, 1), "false"), ((1, 2, 2, 1), "fails")), 2)

    def test_told_terms(self):
        question = ask(CHEAP, SUM, NAME, ("plus", PRICE, 2))
        self.check(question, (), 0, 1, 2, 3)
        self.check(question, (((1,), "true"),), 0, 2, 3)
        self.check(question, (((1,), "false"),))
        self.check(question, (((1,), "fails"),), 1)
        self.check(question, (((2, 0), "fails"),), 1, 2)
        self.check(question, (((2, 0), "true"),), 0, 1, 3)
        self.check(question, (((2, 2), "fails"),), 1, 2, 3)
        self.check(question, (((2, 2), "true"),), 0, 1, 2)
        self.check(question, (((1,), "true"), ((2, 0), "true"), ((2, 1), "true"), ((2, 2), "true")), 0)
        self.check(question, (((1,), "false"), ((2, 0), "fails")))

    def test_without_where(self):
        self.check(ask(None, SUM), (), 0, 1)
        self.check(ask(None, NAME), (), 0)
        self.check(ask(None, SUM, SUM), (((2, 0), "fails"),), 1)
        self.check(ask(None, SUM, SUM), (((2, 0), "true"),), 0, 2)

    def test_outcomes_that_a_leaf_does_not_have_by_its_form(self):
        self.check(ask(("and", IS, CHEAP)), (((1, 1), "fails"),))
        self.check(ask(CHEAP), (((1,), "true"), ((2, 0), "true")), 0)

    def test_all_known_tell_the_goal_of_the_result(self):
        question = ask(("or", ("and", CHEAP, ("not", SOLD)), ("and", IS_NOT, LOUD)), SUM, ("plus", PRICE, 1))
        parts = main_parts(question)
        for outcomes in product(("true", "false", "fails"), repeat=4):
            for told in product(("true", "fails"), repeat=2):
                known = tuple(zip(parts, outcomes + told))
                self.check(question, known, *self.result(dict(known)))

    def result(self, known):
        """The goal that the evaluation from left to right meets."""

        def holds(place):
            if known[place] == "fails":
                raise KeyError(goals.index(place))
            return known[place] == "true"

        goals = ((), (1, 1, 1), (1, 1, 2, 1), (1, 2, 1), (1, 2, 2), (2, 0), (2, 1))
        try:
            if not (holds((1, 1, 1)) and not holds((1, 1, 2, 1)) or holds((1, 2, 1)) and holds((1, 2, 2))):
                return ()
            return (0,) if holds((2, 0)) and holds((2, 1)) else ()
        except KeyError as error:
            return error.args


class Tested(unittest.TestCase):
    def test_the_example(self):
        self.assertEqual(tested(shop(), ONE, (("i", "item", 1),)), (((1, 2), "fails"), ((2, 0), "true")))
        self.assertEqual(tested(bound=(), question=ONE, store=shop()), ())

    def test_parts_that_name_no_refs(self):
        question = ask(("and", ("less", ("value", 1), ("value", 2)), CHEAP), ("value", 1), ("plus", ("value", "a"), 1))
        expected = (((1, 1), "true"), ((2, 0), "true"), ((2, 1), "fails"))
        self.assertEqual(tested(shop(), question, ()), expected)
        self.assertEqual(tested(shop(), question, (("s", "sale", 0),)), expected)
        self.assertEqual(tested(shop(), question, (("i", "item", 0),)), (expected[0], ((1, 2), "true"), *expected[1:]))

    def test_each_part_by_itself(self):
        question = ask(("and", ("is", PRICE, "word"), ("or", CHEAP, ("not", IS))), ("plus", PRICE, 1), NAME)
        places = ((1, 1), (1, 2, 1), (1, 2, 2, 1), (2, 0), (2, 1))
        expected = (("false", "true", "true", "true", "true"), ("false", "fails", "true", "fails", "true"))
        expected += (("true", "fails", "true", "fails", "true"),)
        for number, outcomes in enumerate(expected):
            for bound in permutations((("i", "item", number), ("s", "sale", 1))):
                self.assertEqual(tested(shop(), question, bound), tuple(zip(places, outcomes)))

    def test_refs_named_within_inner_questions(self):
        within = ("exists", inner(("and", ("is", KPRICE, "number"), ("less", KPRICE, COUNT))))
        question = ask(("and", within, IS), ("first", inner(IS, "l"), ("plus", COUNT, 1)))
        self.assertEqual(tested(shop(), question, (("i", "item", 0),)), (((1, 2), "true"),))
        self.assertEqual(tested(shop(), question, (("s", "sale", 0),)), (((1, 1), "false"),))
        both = (((1, 1), "true"), ((1, 2), "true"), ((2, 0), "true"))
        self.assertEqual(tested(shop(), question, (("s", "sale", 1), ("i", "item", 0))), both)

    def test_nothing_changes(self):
        store, bound = shop(), (("s", "sale", 1), ("i", "item", 2))
        self.assertEqual(tested(store, ONE, bound), tested(store, ONE, bound))
        self.assertEqual((store, bound), (shop(), (("s", "sale", 1), ("i", "item", 2))))


class ByChance(unittest.TestCase):
    def test_the_goal_of_each_result_is_always_possible(self):
        rng = random.Random(13)
        met = {}
        for _ in range(300):
            schema = chance.some_schema(rng)
            question = chance.some_question(rng, schema, most_refs=3)
            store = chance.some_store(rng, schema, 3)
            for numbers in combinations(store, question[0]):
                result = result_of(store, question, numbers)
                goal = goal_of(question, result)
                met[goal] = True
                bound = [(alias, table, at) for (alias, table), at in zip(question[0], numbers)]
                rng.shuffle(bound)
                for many in range(len(bound) + 1):
                    known = tested(store, question, tuple(bound[:many]))
                    self.complete(store, question, bound[:many], known)
                    if goal is not None:
                        self.assertIn(goal, possible(question, known))
                self.assertEqual(possible(question, known), () if goal is None else (goal,))
        self.assertTrue(all(goal in met for goal in (None, 0, 1, 2, 3)))

    def complete(self, store, question, bound, known):
        """The known outcomes are those of all complete main parts, as the oracle evaluates them."""
        aliases = [alias for alias, _, _ in bound]
        expected = []
        for place in main_parts(question):
            if all(alias in aliases for alias in named(question, place)):
                got = Oracle(store).eval(bound, part_at(question, place), place)
                outcome = "fails" if got[0] == "fails" else "true" if place[0] == 2 or got[1] else "false"
                expected.append((place, outcome))
        self.assertEqual(known, tuple(expected))
