"""[8] and `part_at`, `main_parts`, `named` and `exchanged` of failsalike.questions."""

import copy
import random
import unittest

from failsalike.questions import exchanged, is_question, main_parts, named, part_at
from tests import chance
from tests.shop import CHEAP, NAME, ONE, PRICE, REFS, SOLD, TWO, shop
from tests.standin import SCHEMA

COUNT = ("column", "s", "count")
KNAME, KPRICE = ("column", "k", "name"), ("column", "k", "price")
WITHIN = ("or", ("same", KNAME, ("column", "s", "name")), ("and", ("is", KPRICE, "word"), ("not", ("less", KPRICE, PRICE))))
INNER = ((("k", "item"),), WITHIN)
OTHER = ((("l", "sale"), ("m", "item")), ("and", ("is", NAME, "word"), ("is", ("column", "m", "name"), "word")))
WHERE = ("and", ("not", ("or", SOLD, ("exists", INNER))), ("or", CHEAP, ("and", ("is", COUNT, "word"), CHEAP)))
TOLD = (("value", 1), ("plus", ("only", OTHER, ("column", "l", "count")), 2), NAME, ("plus", COUNT, 1))
DEEP = (REFS, WHERE, TOLD, (COUNT,), 5)


class Case(unittest.TestCase):
    def setUp(self):
        self.before = copy.deepcopy((ONE, DEEP))

    def tearDown(self):
        self.assertEqual((ONE, DEEP), self.before)


class Parts(Case):
    def test_the_question(self):
        self.assertTrue(is_question(SCHEMA, DEEP))
        for question in (ONE, TWO, DEEP):
            self.assertEqual(part_at(question, ()), question)

    def test_terms_conditions_and_inner_questions(self):
        places = {
            (1,): WHERE,
            (1, 1): WHERE[1],
            (1, 1, 1, 1): SOLD,
            (1, 1, 1, 1, 2): ("column", "s", "name"),
            (1, 1, 1, 2): ("exists", INNER),
            (1, 1, 1, 2, 1): INNER,
            (1, 1, 1, 2, 1, 1): WITHIN,
            (1, 1, 1, 2, 1, 1, 2, 2, 1): ("less", KPRICE, PRICE),
            (2, 0): ("value", 1),
            (2, 1): TOLD[1],
            (2, 1, 1, 1): OTHER,
            (2, 1, 1, 1, 1, 2): OTHER[1][2],
            (2, 1, 1, 2): ("column", "l", "count"),
            (3, 0): COUNT,
        }
        for place, part in places.items():
            self.assertEqual(part_at(DEEP, place), part)

    def test_parameters_by_name(self):
        self.assertEqual(part_at(place=(1, 2), question=ONE), CHEAP)


class MainParts(Case):
    def test_the_example(self):
        self.assertEqual(main_parts(ONE), ((1, 1), (1, 2), (2, 0)))

    def test_without_where(self):
        self.assertEqual(main_parts((REFS, None, (NAME,), (), None)), ((2, 0),))
        self.assertEqual(main_parts((REFS, None, (NAME,) * 4, (), None)), ((2, 0), (2, 1), (2, 2), (2, 3)))

    def test_one_leaf(self):
        for leaf in (SOLD, ("is", NAME, "word"), ("exists", INNER)):
            self.assertEqual(main_parts((REFS, leaf, (NAME,), (), None)), ((1,), (2, 0)))

    def test_conditions_several_deep(self):
        leaves = ((1, 1, 1, 1), (1, 1, 1, 2), (1, 2, 1), (1, 2, 2, 1), (1, 2, 2, 2))
        self.assertEqual(main_parts(DEEP), leaves + ((2, 0), (2, 1), (2, 2), (2, 3)))

    def test_by_name(self):
        self.assertEqual(main_parts(question=ONE), main_parts(ONE))

    def test_they_ascend_and_are_leaves_or_told_terms(self):
        rng = random.Random(1)
        for _ in range(300):
            question = chance.some_question(rng, chance.some_schema(rng))
            places = main_parts(question)
            self.assertEqual(places, tuple(sorted(set(places))))
            self.assertEqual([place for place in places if place[0] == 2], [(2, at) for at in range(len(question[2]))])
            for place in places:
                if place[0] == 1:
                    self.assertIn(part_at(question, place)[0], ("less", "most", "same", "is", "exists"))
                    for end in range(1, len(place)):
                        self.assertIn(part_at(question, place[:end])[0], ("and", "or", "not"))


class Named(Case):
    def test_the_example(self):
        self.assertEqual(named(ONE, (1, 1)), ("i", "s"))
        self.assertEqual(named(ONE, (1, 2)), ("i",))

    def test_of_values_alone(self):
        self.assertEqual(named(DEEP, (2, 0)), ())

    def test_within_inner_questions(self):
        self.assertEqual(named(DEEP, (1, 1, 1, 2)), ("i", "s"))
        self.assertEqual(named(DEEP, (2, 1)), ("i",))
        self.assertEqual(named(DEEP, (2, 3)), ("s",))

    def test_in_the_term_of_an_inner_question(self):
        question = (REFS, None, (("first", ((("k", "item"),), ("is", KNAME, "word")), ("plus", COUNT, 1)),), (), None)
        self.assertEqual(named(question, (2, 0)), ("s",))

    def test_no_aliases_of_inner_refs(self):
        question = (REFS, ("exists", ((("a", "item"), ("z", "item")), ("less", ("column", "a", "price"), ("value", 1)))))
        question += ((NAME,), (), None)
        self.assertEqual(named(question, (1,)), ())

    def test_they_ascend(self):
        refs = tuple((alias, "item") for alias in ("b", "c", "ab", "a"))
        columns = [("column", alias, "price") for alias, _ in refs]
        where = ("and", ("less", columns[1], ("plus", columns[0], 1)), ("same", columns[2], columns[2]))
        question = (refs, where, (columns[3],), tuple(columns), None)
        self.assertEqual(named(question, (1, 1)), ("b", "c"))
        self.assertEqual(named(question, (1, 2)), ("ab",))
        self.assertEqual(named(question, (2, 0)), ("a",))

    def test_words_that_are_values_are_no_aliases(self):
        question = (REFS, ("same", ("value", "i"), ("value", "column")), (NAME,), (), None)
        self.assertEqual(named(question, (1,)), ())

    def test_by_name(self):
        self.assertEqual(named(place=(1, 1), question=ONE), ("i", "s"))


class Exchanged(Case):
    def test_the_example(self):
        self.assertEqual(exchanged(ONE, (1,)), TWO)
        self.assertEqual(exchanged(TWO, (1,)), ONE)

    def test_several_deep(self):
        expected = ("and", WHERE[1], ("or", CHEAP, ("and", CHEAP, ("is", COUNT, "word"))))
        self.assertEqual(exchanged(DEEP, (1, 2, 2)), (REFS, expected, TOLD, (COUNT,), 5))
        expected = ("and", ("not", ("or", ("exists", INNER), SOLD)), WHERE[2])
        self.assertEqual(exchanged(DEEP, (1, 1, 1)), (REFS, expected, TOLD, (COUNT,), 5))
        self.assertEqual(exchanged(DEEP, (1,)), (REFS, ("and", WHERE[2], WHERE[1]), TOLD, (COUNT,), 5))

    def test_within_inner_questions(self):
        turned = exchanged(DEEP, (1, 1, 1, 2, 1, 1))
        within = ("or", WITHIN[2], WITHIN[1])
        self.assertEqual(part_at(turned, (1, 1, 1, 2)), ("exists", (INNER[0], within)))
        turned = exchanged(DEEP, (2, 1, 1, 1, 1))
        inner = (OTHER[0], ("and", OTHER[1][2], OTHER[1][1]))
        self.assertEqual(turned[2], (TOLD[0], ("plus", ("only", inner, ("column", "l", "count")), 2), *TOLD[2:]))
        self.assertEqual(turned[:2] + turned[3:], DEEP[:2] + DEEP[3:])

    def test_twice_is_the_question_itself(self):
        for place in ((1,), (1, 1, 1), (1, 2), (1, 2, 2), (1, 1, 1, 2, 1, 1), (1, 1, 1, 2, 1, 1, 2), (2, 1, 1, 1, 1)):
            turned = exchanged(DEEP, place)
            self.assertNotEqual(turned, DEEP)
            self.assertEqual(exchanged(turned, place), DEEP)
            self.assertTrue(is_question(SCHEMA, turned))
            self.assertTrue(is_question(shop().schema, turned))

    def test_by_name(self):
        self.assertEqual(exchanged(place=(1,), question=ONE), TWO)
