"""Shapes and ledgers: beside small stores, a search through all values, and spoilt at one place each."""

import random
import time
import unittest

from failsalike.errors import KeyTaken, NoPlan, NoQuestion, NotPlain, TooGreat
from failsalike.facts import fact_holds
from failsalike.goals import goals_of
from failsalike.ledgers import alike, alike_holds, can_fail, never_holds, shapes_of, true_holds, true_plan
from failsalike.questions import is_question
from failsalike.stores import Store
from tests import everyvalue
from tests.chance import KINDS, some_question, some_schema, some_value
from tests.everyvalue import EveryShape, domain, goal_number, goal_places, has_inner, words_in
from tests.oracle import Oracle, oracle_outcome
from tests.planning import are_alike, plan_outcome, some_plan
from tests.samples import anything
from tests.shop import ONE, TWO, shop
from tests.spoiling import spoiled

R = 10**12
SCHEMA = (
    ("s", (("p", KINDS), ("q", KINDS)), (), ("p", "q")),
    ("t", (("p", KINDS), ("q", KINDS)), (), ("p", "q")),
    ("u", (("p", KINDS), ("q", KINDS)), (), ()),
)
AP, AQ = ("column", "a", "p"), ("column", "a", "q")
BP, BQ = ("column", "b", "p"), ("column", "b", "q")
CP, CQ = ("column", "c", "p"), ("column", "c", "q")
END = ("end",)
# Numbers that stand for all others, the constants of drawn questions being small or near the ends.
NUMBERS = (-R, -R + 1, -3, -2, -1, 0, 1, 2, 3, 4, 5, R - 1, R)


def question(where, *told, refs=(("a", "s"),), order=(), limit=None):
    return (refs, where, told or (AP,), order, limit)


def plain(asked):
    tables = [table for _, table in asked[0]]
    inner = inner_tables(asked)
    if len(set(tables)) == len(tables) and not set(tables) & set(inner):
        return True
    return not inner and asked[3] == () and asked[4] is None


def inner_tables(thing):
    """The tables of the refs of inner questions."""
    if not isinstance(thing, tuple):
        return []
    here = [table for _, table in thing[1][0]] if thing[:1] in (("exists",), ("first",), ("only",)) else []
    return here + [table for part in thing for table in inner_tables(part)]


class Shapes(unittest.TestCase):
    def test_refs(self):
        self.assertEqual(shapes_of(ONE), ((("item", 1), ("sale", 1)),))
        self.assertEqual(shapes_of(question(None, refs=(("a", "s"), ("b", "s")))), ((("s", 1),), (("s", 2),)))
        refs = (("a", "t"), ("b", "s"), ("c", "t"), ("d", "t"))
        self.assertEqual(shapes_of(question(None, refs=refs)), tuple((("s", 1), ("t", many)) for many in (1, 2, 3)))
        refs = (("a", "t"), ("b", "s"), ("c", "t"), ("d", "s"))
        expected = [(("s", one), ("t", other)) for one in (1, 2) for other in (1, 2)]
        self.assertEqual(shapes_of(question(None, refs=refs)), tuple(expected))

    def test_inner_questions(self):
        exists = ("exists", ((("c", "u"),), ("is", CP, "number")))
        only = ("only", ((("c", "u"),), ("is", CP, "number")), CP)
        first = ("first", ((("d", "u"), ("e", "t")), ("is", ("column", "d", "p"), "word")), ("value", 3))
        both = ("only", ((("d", "u"), ("e", "u")), ("is", ("column", "d", "p"), "word")), ("value", 3))
        self.assertEqual(shapes_of(question(exists)), tuple((("s", 1), ("u", many)) for many in (0, 1)))
        self.assertEqual(shapes_of(question(None, only)), tuple((("s", 1), ("u", many)) for many in (0, 1, 2)))
        expected = [(("s", 1), ("t", one), ("u", other)) for one in (0, 1) for other in (0, 1, 2)]
        self.assertEqual(shapes_of(question(exists, first)), tuple(expected))
        self.assertEqual(len(shapes_of(question(None, both))), 5)
        self.assertEqual(len(shapes_of(question(exists, both))), 6)
        self.assertEqual(len(shapes_of(question(None, ("plus", both, 3), only))), 7)
        # The sum over all questions.
        self.assertEqual(len(shapes_of(question(exists), question(exists))), 3)
        self.assertEqual(len(shapes_of(question(exists), question(None), question(None, both))), 6)
        self.assertEqual(shapes_of(question(exists), question(None)), shapes_of(question(exists)))
        self.assertEqual(shapes_of(question(exists, order=(AP,), limit=3)), shapes_of(question(exists)))


class Answers(unittest.TestCase):
    def never(self, asked, goal, schema=SCHEMA, **more):
        word, found = can_fail(schema, asked, goal, **more)
        if word == "never":
            self.assertIs(never_holds(schema, asked, goal, found), True)
            self.assertEqual(tuple(shape for shape, _ in found), shapes_of(asked))
            return True
        self.assertEqual(word, "can")
        self.assertEqual(found.schema, schema)
        results = [Oracle(found).result(asked, way) for way in Oracle(found).ways(asked[0])]
        self.assertIn(goal, [goal_number(goal_places(asked), result) for result in results])
        return False

    def same(self, one, other, schema=SCHEMA, **more):
        word, found = alike(schema, one, other, **more)
        if word == "alike":
            self.assertIs(alike_holds(schema, one, other, found), True)
            self.assertEqual(tuple(shape for shape, _ in found), shapes_of(one, other))
            return True
        self.assertEqual(word, "apart")
        self.assertEqual(found.schema, schema)
        self.assertFalse(are_alike(one, oracle_outcome(found, one), oracle_outcome(found, other)))
        return False

    def true(self, asked, plan, schema=SCHEMA, **more):
        word, found = true_plan(schema, asked, plan, **more)
        if word == "true":
            self.assertIs(true_holds(schema, asked, plan, found), True)
            self.assertEqual(tuple(shape for shape, _ in found), shapes_of(asked))
            return True
        self.assertEqual(word, "untrue")
        self.assertEqual(found.schema, schema)
        self.assertTrue(all(fact_holds(found, fact) for fact in plan[2]))
        self.assertFalse(are_alike(asked, oracle_outcome(found, asked), plan_outcome(found, asked, plan)))
        return False


class CanFail(Answers):
    def test_the_examples(self):
        schema = shop().schema
        self.assertEqual([can_fail(schema, ONE, 1)[0], can_fail(schema, ONE, 2)[0]], ["never", "can"])
        self.assertTrue(self.never(ONE, 1, schema))
        self.assertFalse(self.never(ONE, 2, schema))
        self.assertFalse(self.never(TWO, 1, schema))

    def test_one_leaf(self):
        self.assertFalse(self.never(question(("less", AP, AQ)), 1))
        self.assertFalse(self.never(question(("same", AP, AP)), 1))
        self.assertTrue(self.never(question(("and", ("is", AP, "number"), ("less", AP, ("value", 3)))), 1))
        self.assertTrue(self.never(question(("or", ("not", ("is", AP, "number")), ("most", AP, ("value", 3)))), 1))
        self.assertFalse(self.never(question(("or", ("is", AP, "number"), ("most", AP, ("value", 3)))), 1))
        self.assertTrue(self.never(question(("and", ("same", AP, ("value", 3)), ("less", AP, ("value", 3)))), 2))
        self.assertTrue(self.never(question(("or", ("is", AP, "nothing"), ("same", AP, AP))), 1))

    def test_sums(self):
        limit = ("value", R - 3)
        self.assertTrue(self.never(question(("most", AP, limit), ("plus", AP, 3)), 2))
        self.assertFalse(self.never(question(("most", AP, limit), ("plus", AP, 4)), 2))
        self.assertFalse(self.never(question(("most", AP, limit), ("plus", AP, -1)), 2))
        self.assertFalse(self.never(question(("most", AP, limit), ("plus", ("plus", AP, 4), -4)), 2))
        self.assertTrue(self.never(question(("most", AP, limit), ("plus", ("plus", AP, 3), -3)), 2, limit=2000))
        self.assertFalse(self.never(question(("most", AP, limit), ("plus", ("plus", AP, 3), -4)), 2))

    def test_two_refs(self):
        for refs in ((("a", "s"), ("b", "t")), (("a", "s"), ("b", "s"))):
            self.assertFalse(self.never(question(("less", AP, BP), refs=refs), 1))
            kinds = ("and", ("is", AP, "number"), ("is", BP, "number"))
            self.assertTrue(self.never(question(("and", kinds, ("less", AP, BP)), refs=refs), 1))
            self.assertFalse(self.never(question(("and", kinds, ("less", AP, BQ)), refs=refs), 1))

    def test_inner_questions(self):
        some = ((("c", "u"),), ("is", CP, "number"))
        self.assertFalse(self.never(question(None, ("only", some, CP)), 1))
        self.assertFalse(self.never(question(None, ("plus", ("first", some, CP), 1)), 1))
        keyed = tuple((name, columns, ("p",) if name == "u" else (), ()) for name, columns, _, _ in SCHEMA)
        one = ((("c", "u"),), ("and", ("not", ("is", CP, "nothing")), ("same", CP, ("value", 3))))
        self.assertFalse(self.never(question(None, ("only", one, CP)), 1))
        self.assertTrue(self.never(question(None, ("only", one, CP)), 1, keyed))
        self.assertFalse(self.never(question(None, ("only", some, CP)), 1, keyed))
        nothing = ((("c", "u"),), ("is", CP, "nothing"))
        self.assertTrue(self.never(question(None, ("only", nothing, CP)), 1, keyed))
        guarded = ((("c", "u"),), ("and", ("is", CP, "number"), ("less", CP, ("value", 3))))
        self.assertTrue(self.never(question(("exists", guarded)), 1))
        wider = ((("c", "u"), ("d", "u")), ("same", CP, ("column", "d", "p")))
        self.assertFalse(self.never(question(("exists", wider)), 1))

    def test_limits_and_orders(self):
        for limit, order in ((0, ()), (1, (AP,)), (None, (AQ, AP))):
            self.assertFalse(self.never(question(("less", AP, AQ), order=order, limit=limit), 1))
            never = ("and", ("is", AP, "nothing"), ("is", AP, "word"))
            self.assertTrue(self.never(question(never, ("plus", AP, 1), order=order, limit=limit), 1))

    def test_not_plain(self):
        twice = (("a", "s"), ("b", "s"))
        inner = ("exists", ((("c", "u"),), ("less", CP, CQ)))
        same = ("exists", ((("c", "s"),), ("less", CP, CQ)))
        for asked in (
            question(("less", AP, BP), refs=twice, limit=3),
            question(("less", AP, BP), refs=twice, limit=0),
            question(("less", AP, BP), refs=twice, order=(AP,)),
            question(inner, refs=twice),
            question(same),
            question(None, ("first", ((("c", "u"), ("d", "s")), ("less", CP, CQ)), CP)),
        ):
            good = question(None, refs=asked[0])
            with self.assertRaises(NotPlain):
                can_fail(SCHEMA, asked, 1)
            with self.assertRaises(NotPlain):
                alike(SCHEMA, asked, good)
            with self.assertRaises(NotPlain):
                alike(SCHEMA, question(None, refs=(("z", "t"),)), asked)
            with self.assertRaises(NotPlain):
                true_plan(SCHEMA, asked, None)
            for thing in ((), None, tuple((shape, END) for shape in shapes_of(good))):
                self.assertIs(never_holds(SCHEMA, asked, 1, thing), False)
                self.assertIs(alike_holds(SCHEMA, asked, asked, thing), False)
                self.assertIs(true_holds(SCHEMA, asked, ((), (), ()), thing), False)
        for asked in (question(("less", AP, BP), refs=twice), question(inner, order=(AP,), limit=1)):
            self.assertFalse(self.never(asked, 1))

    def test_there_are_no_ledgers_if_a_question_is_not_plain(self):
        refs = (("a", "s"), ("b", "s"))
        never = ("and", ("is", AP, "word"), ("is", AP, "number"))
        asked = question(("and", never, ("less", AP, BP)), refs=refs)
        ledger = can_fail(SCHEMA, asked, 1)[1]
        self.assertTrue(never_holds(SCHEMA, asked, 1, ledger))
        self.assertTrue(alike_holds(SCHEMA, asked, asked, ledger))
        plan = ((((0, 1), ("a", "b"), (("rows",), ("rows",))),), (), ())
        self.assertTrue(true_holds(SCHEMA, asked, plan, ledger))
        for limited in ((*asked[:4], 3), (*asked[:3], (AP,), None), (*asked[:4], 0)):
            self.assertFalse(never_holds(SCHEMA, limited, 1, ledger))
            self.assertFalse(alike_holds(SCHEMA, limited, limited, ledger))
            self.assertFalse(true_holds(SCHEMA, limited, plan, ledger))
        # One of two that is not plain is enough, the first one or the second.
        inner = ("exists", ((("c", "s"),), ("is", CP, "number")))
        one, other = question(inner, limit=0), question(None, limit=0)
        shapes = shapes_of(one, other)
        ledger = tuple((shape, END) for shape in shapes)
        self.assertTrue(alike_holds(SCHEMA, other, other, ((shapes_of(other)[0], END),)))
        for pair in ((one, other), (other, one), (one, one)):
            self.assertFalse(alike_holds(SCHEMA, *pair, ledger))
            self.assertFalse(alike_holds(SCHEMA, *pair, ((shapes_of(other)[0], END),)))
            with self.assertRaises(NotPlain):
                alike(SCHEMA, *pair)


class Alike(Answers):
    def test_the_examples(self):
        schema = shop().schema
        self.assertFalse(self.same(ONE, TWO, schema))
        self.assertTrue(self.same(ONE, ONE, schema))

    def test_form_alone(self):
        one, other = ("less", AP, ("value", 3)), ("same", AQ, ("value", "a"))
        for where, like in (
            (one, ("not", ("not", one))),
            (one, ("and", one, one)),
            (one, ("or", one, one)),
            (("not", ("and", one, other)), ("or", ("not", one), ("not", other))),
            (("not", ("or", one, other)), ("and", ("not", one), ("not", other))),
            (("and", one, ("and", other, one)), ("and", ("and", one, other), one)),
            (other, ("same", other[2], other[1])),
            (("and", one, other), ("and", one, ("and", other, one))),
            (("less", AP, AQ), ("not", ("most", AQ, AP))),
            (one, ("most", AP, ("value", 2))),
            (None, ("same", ("value", 1), ("value", 1))),
            (("and", one, other), ("not", ("or", ("not", one), ("not", other)))),
        ):
            self.assertTrue(self.same(question(where), question(like)), (where, like))
            self.assertTrue(self.same(question(like), question(where)))

    def test_apart(self):
        one, other = ("less", AP, ("value", 3)), ("same", AQ, ("value", "a"))
        for where, like in (
            (("and", one, other), ("and", other, one)),
            (("or", one, other), ("or", other, one)),
            (one, other),
            (one, ("not", one)),
            (one, None),
            (one, ("less", AP, ("value", 4))),
            (one, ("most", AP, ("value", 3))),
            (("less", AP, AQ), ("most", AP, AQ)),
            (other, ("same", AQ, ("value", "b"))),
            (("is", AP, "number"), ("is", AP, "word")),
            (("same", AP, AP), None),
        ):
            self.assertFalse(self.same(question(where), question(like)), (where, like))

    def test_the_place_of_a_failure_does_not_matter_its_word_does(self):
        self.assertTrue(self.same(question(("less", AP, AQ)), question(("and", ("less", AP, AQ), ("less", AP, AQ)))))
        self.assertTrue(self.same(question(("less", AP, ("value", "a"))), question(("most", ("value", None), AP))))
        self.assertFalse(self.same(question(("less", AP, ("value", "a"))), question(("same", ("value", None), AP))))
        long = ("plus", ("value", R), 1)
        self.assertFalse(self.same(question(("is", long, "word")), question(("less", AP, ("value", "a")))))

    def test_told_terms(self):
        self.assertFalse(self.same(question(None, AP), question(None, AQ)))
        self.assertFalse(self.same(question(None, AP), question(None, AP, AP)))
        self.assertTrue(self.same(question(("same", AP, AQ), AP), question(("same", AP, AQ), AQ)))
        self.assertTrue(self.same(question(("same", AP, ("value", "a")), AP), question(("same", AP, ("value", "a")), ("value", "a"))))
        self.assertTrue(self.same(question(("is", AP, "nothing"), AP), question(("is", AP, "nothing"), ("value", None))))
        self.assertFalse(self.same(question(("is", AP, "number"), AP), question(("is", AP, "number"), ("value", 3))))
        # Without rows, unlike numbers of told terms do not matter.
        never = ("and", ("is", AP, "word"), ("is", AP, "number"))
        self.assertTrue(self.same(question(never, AP), question(never, AQ, AP)))
        self.assertTrue(self.same(question(None, AP, limit=0), question(("less", AP, AQ), AQ, AQ, limit=0)))
        self.assertFalse(self.same(question(None, AP, limit=1), question(None, AQ, limit=1)))
        # A value that may have another kind is not equal to one that has a single kind.
        for kinds in (KINDS, ("nothing", "number"), ("nothing", "word"), ("number", "word")):
            schema = (("s", (("p", kinds), ("q", KINDS)), (), ()),)
            for value in (None, 3, "a"):
                self.assertFalse(self.same(question(None, AP), question(None, ("value", value)), schema))
                self.assertFalse(self.same(question(None, ("value", value)), question(None, AP), schema))
                ledger = (((("s", 1),), END),)
                self.assertFalse(alike_holds(schema, question(None, AP), question(None, ("value", value)), ledger))
            self.assertFalse(self.same(question(None, AP), question(None, AQ), schema))
        near = ("same", ("plus", AP, 1), AQ)
        self.assertTrue(self.same(question(near, ("plus", AP, 1)), question(near, AQ)))

    def test_two_refs(self):
        twice, apart = (("a", "s"), ("b", "s")), (("a", "s"), ("b", "t"))
        for refs in (twice, apart):
            self.assertFalse(self.same(question(("less", AP, BP), refs=refs), question(("less", BP, AP), refs=refs)))
            self.assertTrue(self.same(question(("same", AP, BP), refs=refs), question(("same", BP, AP), refs=refs)))
        # The first failure ends both, whatever stands behind it.
        kinds = ("is", AP, "nothing")
        fails = ("less", ("value", 1), ("value", "a"))
        self.assertTrue(self.same(question(fails, refs=twice), question(fails, BP, refs=twice)))
        self.assertFalse(self.same(question(kinds, AP, refs=twice), question(kinds, BP, refs=twice)))

    def test_inner_questions(self):
        exists = ("exists", ((("c", "u"),), ("is", CP, "number")))
        first = ("first", exists[1], ("value", 3))
        self.assertTrue(self.same(question(exists), question(("is", first, "number"))))
        self.assertTrue(self.same(question(exists), question(("not", ("not", exists)))))
        self.assertFalse(self.same(question(exists), question(("is", ("only", exists[1], CP), "number"))))
        swapped = ("exists", ((("d", "u"), ("e", "t")), ("is", ("column", "d", "p"), "number")))
        self.assertFalse(self.same(question(exists), question(swapped)))
        fails = ("exists", ((("c", "u"),), ("less", CP, ("value", 3))))
        other = ("exists", ((("c", "u"),), ("and", ("less", CP, ("value", 3)), ("less", CP, ("value", 3)))))
        self.assertTrue(self.same(question(fails), question(other)))

    def test_keys(self):
        keyed = tuple((name, columns, ("p",), ()) for name, columns, _, _ in SCHEMA)
        refs = (("a", "s"), ("b", "s"))
        where = ("and", ("not", ("is", AP, "nothing")), ("and", ("not", ("is", BP, "nothing")), ("same", AP, BP)))
        one, other = question(where, AQ, refs=refs), question(where, BQ, refs=refs)
        self.assertFalse(self.same(one, other))
        self.assertTrue(self.same(one, other, keyed))
        nothing = ("and", ("is", AP, "nothing"), ("is", BP, "nothing"))
        self.assertFalse(self.same(question(nothing, AQ, refs=refs), question(nothing, BQ, refs=refs)))
        self.assertTrue(self.same(question(nothing, AQ, refs=refs), question(nothing, BQ, refs=refs), keyed))

    def test_keys_of_numbers_and_of_all_kinds(self):
        refs = (("a", "s"), ("b", "s"))
        one, other = question(None, AQ, refs=refs), question(None, BQ, refs=refs)
        for kinds in (("number",), ("word",), ("nothing", "number"), KINDS):
            keyed = (("s", (("p", kinds), ("q", KINDS)), ("p",), ()),)
            self.assertFalse(self.same(one, other, keyed))
            both = (("s", (("p", kinds), ("q", kinds)), ("p", "q"), ()),)
            self.assertFalse(self.same(one, other, both))
        near = ("and", ("less", AP, BP), ("less", BP, ("plus", AP, 2)))
        keyed = (("s", (("p", ("number",)), ("q", KINDS)), ("p",), ()),)
        self.assertFalse(self.same(question(near, AQ, refs=refs), question(near, BQ, refs=refs), keyed))
        most = ("most", BP, AP)
        self.assertFalse(self.same(question(most, AQ, refs=refs), question(most, BQ, refs=refs), keyed))
        nothing = (("s", (("p", ("nothing",)), ("q", KINDS)), ("p",), ()),)
        self.assertTrue(self.same(one, question(None, AQ, refs=refs), nothing))

    def test_other_refs_orders_and_limits(self):
        one = question(None)
        for other in (
            question(None, refs=(("a", "t"),)),
            question(None, ("value", 1), refs=(("b", "s"),)),
            question(None, order=(AP,)),
            question(None, limit=3),
        ):
            with self.assertRaises(NoQuestion):
                alike(SCHEMA, one, other)
            self.assertIs(alike_holds(SCHEMA, one, other, alike(SCHEMA, one, one)[1]), False)
        self.assertTrue(self.same(question(None, order=(AP,), limit=2), question(None, order=(AP,), limit=2)))


class TruePlan(Answers):
    ROWS = ("rows",)

    def test_the_examples(self):
        schema = shop().schema
        course = ((2,), ("i", "s"), (("index", "price", (1, 2), ("fails",)), ("rows",)))
        rest = ((0, 1), ("i", "s"), (("rows",), ("rows",)))
        self.assertTrue(self.true(ONE, ((rest, course), (), ()), schema))
        self.assertTrue(self.true(ONE, ((((0, 2), ("s", "i"), (("rows",),) * 2),), ((1, None),), ()), schema))
        self.assertFalse(self.true(ONE, ((((0, 1), ("s", "i"), (("rows",),) * 2),), ((2, END),), ()), schema))
        for plan in (((course,), (), ()), ((rest, course, ((0,), ("i",), (("rows",),))), (), ()), None, (), "plan", 3):
            with self.assertRaises(NoPlan):
                true_plan(schema, ONE, plan)
            self.assertIs(true_holds(schema, ONE, plan, ()), False)

    def test_plans_that_miss_something(self):
        asked = question(("less", AP, ("value", 3)))
        all_rows = (((0, 1), ("a",), (self.ROWS,)),)
        self.assertTrue(self.true(asked, (all_rows, (), ())))
        self.assertFalse(self.true(asked, ((((0,), ("a",), (self.ROWS,)),), ((1, END),), ())))
        self.assertFalse(self.true(asked, ((((1,), ("a",), (self.ROWS,)),), ((0, END),), ())))
        self.assertFalse(self.true(asked, ((), ((0, END), (1, END)), ())))
        facts = (("no", "s", "p", "nothing"), ("no", "s", "p", "word"))
        self.assertTrue(self.true(asked, ((((0,), ("a",), (self.ROWS,)),), ((1, END),), facts)))
        self.assertFalse(self.true(asked, ((((0,), ("a",), (self.ROWS,)),), ((1, END),), facts[:1])))
        none = (*facts[:1], ("no", "s", "p", "number"), facts[1])
        self.assertTrue(self.true(asked, ((), ((0, END), (1, END)), none)))
        self.assertTrue(self.true((*asked[:4], 0), ((), ((0, END), (1, END)), ())))
        self.assertFalse(self.true((*asked[:4], 1), ((), ((0, END), (1, END)), ())))

    def test_between_paths(self):
        asked = question(("and", ("is", AP, "number"), ("less", AP, ("value", 3))))

        def between(low, high, column="p"):
            return (((0,), ("a",), (("between", column, low, high, (None,)),)),)

        for low, high, is_true in ((-R, 2, True), (-R, 5, True), (-R, 1, False), (-R + 1, 2, False)):
            self.assertEqual(self.true(asked, (between(low, high), ((1, END),), ())), is_true)
        self.assertFalse(self.true(asked, (between(-R, R, "q"), ((1, END),), ())))
        self.assertTrue(self.true(asked, (between(0, 2), ((1, END),), (("within", "s", "p", 0, 9),))))
        self.assertFalse(self.true(asked, (between(0, 2), ((1, END),), (("within", "s", "p", -1, 9),))))
        # What one course misses another one fetches.
        self.assertTrue(self.true(asked, (between(-R, 0) + between(1, 3), ((1, END),), ())))
        self.assertFalse(self.true(asked, (between(-R, 0) + between(2, 3), ((1, END),), ())))

    def test_whether_between_paths_fetch_is_settled(self):
        asked = question(("is", AP, "number"))
        facts = (("no", "s", "p", "nothing"), ("no", "s", "p", "word"), ("within", "s", "p", 0, 3))
        lower = ((0,), ("a",), (("between", "p", 0, 1, (None,)),))
        upper = ((0,), ("a",), (("between", "p", 2, 3, (None,)),))
        plan = ((lower, upper), (), facts)
        self.assertTrue(self.true(asked, plan))
        shape, P = (("s", 1),), ("s", 0, "p")
        self.assertTrue(true_holds(SCHEMA, asked, plan, ((shape, ("most", P, (), 1, END, END)),)))
        # Some course always fetches, but it is not settled which.
        self.assertFalse(true_holds(SCHEMA, asked, plan, ((shape, END),)))
        self.assertFalse(true_holds(SCHEMA, asked, plan, ((shape, ("most", P, (), 0, END, END)),)))
        # The first course that fetches is enough; the one behind it need not be settled.
        whole = ((0,), ("a",), (("between", "p", 0, 3, (None,)),))
        self.assertTrue(true_holds(SCHEMA, asked, ((whole, upper), (), facts), ((shape, END),)))
        self.assertFalse(true_holds(SCHEMA, asked, ((upper, whole), (), facts), ((shape, END),)))
        # All paths of a course are asked, even if the first one fetches nothing.
        refs = (("a", "s"), ("b", "t"))
        two = question(("is", AP, "number"), refs=refs)
        never = ("between", "p", 7, 8, (None,))
        first = ((0,), ("a", "b"), (never, ("between", "q", 0, 1, (None,))))
        rest = ((0,), ("a", "b"), (("rows",), ("rows",)))
        both = ((first, rest), (), facts)
        shape, Q = (("s", 1), ("t", 1)), ("t", 0, "q")
        self.assertTrue(self.true(two, both))
        self.assertFalse(true_holds(SCHEMA, two, both, ((shape, END),)))
        tree = ("kind", Q, END, ("most", Q, (), 1, ("most", (), Q, 0, END, END), END), END)
        self.assertTrue(true_holds(SCHEMA, two, both, ((shape, tree),)))

    def test_between_paths_that_fetch_nothing(self):
        # No number of its range is left: what kind the value has need not be settled.
        asked = question(("is", AQ, "number"))
        facts = (("no", "s", "p", "word"), ("within", "s", "p", 5, 9))
        never = ((0,), ("a",), (("between", "p", 0, 3, (None,)),))
        plan = ((never, ((0,), ("a",), (self.ROWS,))), (), facts)
        self.assertTrue(self.true(asked, plan))
        kind = ("kind", ("s", 0, "q"), END, END, END)
        self.assertTrue(true_holds(SCHEMA, asked, plan, (((("s", 1),), kind),)))
        self.assertFalse(true_holds(SCHEMA, asked, plan, (((("s", 1),), END),)))
        self.assertIn(("kind", ("s", 0, "p")), [node[:2] for node in self.nodes(true_plan(SCHEMA, asked, plan)[1][0][1])])
        self.assertFalse(self.true(asked, ((never,), (), facts)))
        self.assertFalse(true_holds(SCHEMA, asked, ((never,), (), facts), (((("s", 1),), kind),)))
        word = ((0,), ("a",), (("between", "p", 5, 8, (None,)),))
        plan = ((word, ((0,), ("a",), (self.ROWS,))), (), facts)
        self.assertTrue(self.true(asked, plan))
        self.assertFalse(true_holds(SCHEMA, asked, plan, (((("s", 1),), kind),)))

    def nodes(self, tree):
        return [tree] + [node for part in tree if isinstance(part, tuple) and part[:1] != () for node in self.nodes(part)]

    def test_first_paths(self):
        refs = (("a", "s"), ("b", "s"))
        asked = question(("less", AP, ("value", 3)), refs=refs)
        rest = ((0,), ("a", "b"), (self.ROWS, self.ROWS))
        first = ((1,), ("a", "b"), (self.ROWS, ("first",)))
        self.assertTrue(self.true(asked, ((rest, first), (), ())))
        with self.assertRaises(NoPlan):
            true_plan(SCHEMA, asked, ((rest, ((1,), ("a", "b"), (("first",), self.ROWS))), (), ()))
        with self.assertRaises(NoPlan):
            true_plan(SCHEMA, asked, ((((0,), ("a", "b"), (self.ROWS, ("first",))), first), (), ()))

    def test_index_paths(self):
        asked = question(("less", AP, ("value", 3)))
        index = ("index", "p", (1,), ("true", "fails"))
        self.assertTrue(self.true(asked, ((((0, 1), ("a",), (index,)),), (), ())))
        for outcomes in (("true",), ("fails",), ("false",), ("true", "false"), ("false", "fails")):
            with self.assertRaises(NoPlan):
                true_plan(SCHEMA, asked, ((((0, 1), ("a",), (("index", "p", (1,), outcomes),)),), (), ()))


class Limits(Answers):
    def test_too_great(self):
        asked = question(("and", ("is", AP, "number"), ("less", AP, AQ)), refs=(("a", "s"), ("b", "t")))
        fine = question(("is", AP, "number"))
        for limit in (0, 1, 3):
            for call in (
                lambda: can_fail(SCHEMA, asked, 1, limit=limit),
                lambda: can_fail(SCHEMA, question(("and", fine[1], ("less", AP, ("value", 1)))), 1, limit=limit),
                lambda: alike(SCHEMA, asked, asked, limit=limit),
                lambda: true_plan(SCHEMA, asked, ((((0, 1), ("a", "b"), (("rows",),) * 2),), (), ()), limit=limit),
            ):
                try:
                    self.assertIn(call()[0], ("can", "never"))
                except TooGreat as error:
                    self.assertEqual(error.limit, limit)
        # One part is enough here.
        self.assertEqual(alike(SCHEMA, question(None), question(None), limit=1), ("alike", (((("s", 1),), END),)))

    def some_small(self, rng, with_only):
        """Two questions with at most two different leaves."""
        has_own = rng.random() < 0.5
        refs = rng.choice(((("a", "s"),), (("a", "s"), ("b", "t")), (("a", "s"), ("b", "s"))))
        refs = refs if not has_own or refs[-1] != ("b", "s") else refs[:1]
        aliases = [alias for alias, _ in refs]

        def term(names):
            value = ("value", rng.choice((None, 3, 4, "a", "b")))
            return value if rng.random() < 0.15 else ("column", rng.choice(names), rng.choice("pq"))

        def leaf(names):
            word = rng.choice(("same", "same", "less", "most", "is"))
            return ("is", term(names), rng.choice(KINDS)) if word == "is" else (word, term(names), term(names))

        if has_own:
            inner = ((("c", "u"),), leaf([*aliases, "c"]))
            own = (rng.choice(("first", "only")) if with_only else "first", inner, term([*aliases, "c"]))
            leaves = [rng.choice((("exists", inner), ("is", own, rng.choice(KINDS)), ("same", own, term(aliases))))]
        else:
            leaves = [leaf(aliases), leaf(aliases)]

        def condition(deep):
            if has_own or deep == 0 or rng.random() < 0.25:
                made = rng.choice(leaves)
            else:
                made = (rng.choice(("and", "or")), condition(deep - 1), condition(deep - 1))
            return ("not", made) if rng.random() < 0.25 else made

        return [question(condition(3), term(aliases), refs=refs) for _ in range(2)]

    def test_never_too_great_where_it_is_excluded(self):
        rng = random.Random(8)
        began = time.process_time()
        for _ in range(150):
            one, other = self.some_small(rng, True)
            self.assertTrue(is_question(SCHEMA, one))
            for goal in range(1, len(goals_of(one))):
                self.never(one, goal, limit=5000)
            one, other = self.some_small(rng, False)
            self.same(one, other, limit=5000)
            self.same(one, (one[0], ("not", ("not", one[1])), *one[2:]), limit=5000)
            plan = some_plan(rng, SCHEMA, one)
            goals = [goal for course in plan[0][:2] for goal in course[0]]
            if len(set(goals)) == len(goals):
                omitted = tuple((goal, None) for goal in range(len(goals_of(one))) if goal not in goals)
                self.true(one, (plan[0][:2], omitted, plan[2]), limit=5000)
        self.assertLess(time.process_time() - began, 100)


class Beside(Answers):
    def variant(self, rng, where):
        """A condition much like another one, mostly alike."""
        chance = rng.random()
        if where is None:
            return where
        if chance < 0.15:
            return ("not", ("not", where))
        if chance < 0.25 and not has_inner(where):
            return (rng.choice(("and", "or")), where, where)
        if where[0] in ("and", "or"):
            if chance < 0.35:
                return (where[0], where[2], where[1])
            return (where[0], self.variant(rng, where[1]), self.variant(rng, where[2]))
        if where[0] == "not":
            return ("not", self.variant(rng, where[1]))
        if where[0] == "same" and chance < 0.5:
            return ("same", where[2], where[1])
        if where[0] == "less" and chance < 0.5:
            return ("not", ("most", where[2], where[1]))
        return where

    def some_schema(self, rng):
        schema = []
        for name, columns, keys, indexes in some_schema(rng, ("t", "u")):
            left = [column for column, _ in columns[:2]]
            keys = left[:1] if rng.random() < 0.3 else ()
            schema.append((name, columns[:2], tuple(keys), tuple(column for column in indexes if column in left)))
        return tuple(schema)

    def some_case(self, rng):
        """What is asked, what holds of ledgers, the claim, and whether it is so on a store; None if not plain."""
        schema = self.some_schema(rng)
        asked = some_question(rng, schema, 2, rng.choice((0, 0, 1)), 0.2, 0.2)
        if not plain(asked):
            return None
        kind = rng.choice(("never", "alike", "true"))
        if kind == "never":
            goal = len(goals_of(asked)) - 1
            if goal == 0:
                return None
            return self.never_case(schema, asked, rng.randint(1, goal))
        if kind == "alike":
            other = (asked[0], self.variant(rng, asked[1]), asked[2][:: rng.choice((1, 1, 1, -1))], *asked[3:])
            return self.alike_case(schema, asked, other)
        return self.true_case(schema, asked, some_plan(rng, schema, asked))

    def never_case(self, schema, asked, goal):
        def is_so(store):
            results = [Oracle(store).result(asked, way) for way in Oracle(store).ways(asked[0])]
            return goal not in [goal_number(goal_places(asked), result) for result in results]

        return (schema, (asked,), (), everyvalue.never(asked, goal), is_so,
                lambda: can_fail(schema, asked, goal), lambda thing: never_holds(schema, asked, goal, thing))

    def alike_case(self, schema, one, other):
        def is_so(store):
            return are_alike(one, oracle_outcome(store, one), oracle_outcome(store, other))

        return (schema, (one, other), (), everyvalue.alike(one, other), is_so,
                lambda: alike(schema, one, other), lambda thing: alike_holds(schema, one, other, thing))

    def true_case(self, schema, asked, plan):
        def is_so(store):
            return are_alike(asked, oracle_outcome(store, asked), plan_outcome(store, asked, plan))

        return (schema, (asked,), plan[2], everyvalue.true_plan(asked, plan), is_so,
                lambda: true_plan(schema, asked, plan), lambda thing: true_holds(schema, asked, plan, thing))

    def small_store(self, rng, schema):
        store = Store.of(schema)
        for name, columns, _, _ in schema:
            for _ in range(rng.randint(0, 3)):
                try:
                    store.put(name, *[some_value(rng, kinds) for _, kinds in columns])
                except KeyTaken:
                    pass
        return store

    def test_drawn_questions(self):
        rng = random.Random(21)
        met = []
        while len(met) < 400:
            case = self.some_case(rng)
            if case is None:
                continue
            schema, questions, facts, claim, is_so, call, holds = case
            try:
                word, found = call()
            except TooGreat:
                continue
            met.append(word)
            if isinstance(found, Store):
                self.assertEqual(found.schema, schema)
                self.assertTrue(all(fact_holds(found, fact) for fact in facts))
                self.assertFalse(is_so(found), case)
                continue
            self.assertIs(holds(found), True)
            for _ in range(6):
                store = self.small_store(rng, schema)
                self.assertTrue(is_so(store) or not all(fact_holds(store, fact) for fact in facts), case)
            self.check_trees(rng, case, found)
        for word in ("can", "never", "alike", "apart", "true", "untrue"):
            self.assertGreater(met.count(word), 12, word)

    def check_trees(self, rng, case, ledger):
        """Looks at the trees for small frames, and at spoilt ones."""
        schema, questions, facts, claim, _, _, holds = case
        columns = {table[0]: table[1] for table in schema}
        words = {"a", "b", "cup"}.union(*[words_in(asked) for asked in questions])
        for at, (shape, tree) in enumerate(ledger):
            size = 1
            for table, count in shape:
                for name, kinds in columns[table] * count:
                    size *= len(domain(kinds, table, name, facts, sorted(words) + ["x"] * 4, NUMBERS))
            if size <= 700:
                every = EveryShape(schema, questions[0][0], shape, facts, words, NUMBERS, claim)
                self.assertTrue(every.is_so(), (case, shape))
                self.assertTrue(every.right(tree), (case, shape, tree))
                for _ in range(3):
                    other = spoiled(rng, tree, every.unknowns)
                    got = holds(ledger[:at] + ((shape, other),) + ledger[at + 1 :])
                    # Numbers that the search leaves out can only make a tree wrong.
                    self.assertTrue(not got or every.right(other), (case, shape, other))
                    if not any(str(number) in repr(other) for number in (R - 2, R - 3, 6, 7, 8, 9)):
                        self.assertEqual(got, every.right(other), (case, shape, other))

    def test_spoilt_ledgers(self):
        rng = random.Random(6)
        asked = question(("and", ("is", AP, "number"), ("less", AP, AQ)), refs=(("a", "s"), ("b", "s")))
        ledger = alike(SCHEMA, asked, asked)[1]
        tree = ledger[0][1]
        self.assertIs(alike_holds(SCHEMA, asked, asked, ledger), True)
        for thing in anything() + [ledger[:1], ledger[::-1], ledger * 2, list(ledger), ledger + (None,), (tree, tree)]:
            self.assertIs(alike_holds(SCHEMA, asked, asked, thing), False)
        for shape in (
            ((("s", True),)), (("s", 2),), (("t", 1),), (("s", 1), ("t", 1)), [("s", 1)], (["s", 1],), ("s", 1), None,
            (("s", 1, 1),), (("s", "1"),), {"s": 1}, (("s", True),),
        ):
            self.assertIs(alike_holds(SCHEMA, asked, asked, ((shape, tree),) + ledger[1:]), False, shape)
        for pair in ((ledger[0][0],), (*ledger[0], 1), list(ledger[0]), ledger[0][1], None, END):
            self.assertIs(alike_holds(SCHEMA, asked, asked, (pair,) + ledger[1:]), False)
        wrong = 0
        for _ in range(400):
            other = spoiled(rng, ledger, [("s", 0, "p"), ("s", 1, "q")])
            wrong += not alike_holds(SCHEMA, asked, asked, other)
        self.assertGreater(wrong, 200)

    def test_nodes_of_ledgers(self):
        asked = question(None)
        shape, P = (("s", 1),), ("s", 0, "p")
        for tree in (END, ("kind", P, END, END, END), ("kind", P, END, ("most", P, (), 3, END, END), END)):
            self.assertTrue(alike_holds(SCHEMA, asked, asked, ((shape, tree),)))
        for tree in (
            ("leaf", (2, 0), END, END, END),
            ("kind", ("s", False, "p"), END, END, END),
            ("kind", ("s", 1, "p"), END, END, END),
            ("kind", ("s", 0, "x"), END, END, END),
            ("kind", ("a", "p"), END, END, END),
            ("kind", ["s", 0, "p"], END, END, END),
            ("kind", ("s", [0], "p"), END, END, END),
            ("most", P, (), 3, END, END),
            ("kind", P, END, ("most", P, (), True, END, END), END),
            ("word", P, "a", END, END),
            ("kind", P, END, END, ("same", P, ("s", 0, "q"), END, END)),
        ):
            self.assertFalse(alike_holds(SCHEMA, asked, asked, ((shape, tree),)), tree)
        # Trees do not go on where a question with an inner question has a known outcome.
        inner = question(("exists", ((("c", "u"),), ("is", CP, "word"))))
        ledger = tuple((shape, ("leaf", (1,), END, END, END)) for shape in shapes_of(inner, inner))
        self.assertFalse(alike_holds(SCHEMA, inner, inner, ledger))

    def test_keys_that_are_settled(self):
        keyed = (("s", (("p", ("word",)), ("q", KINDS)), ("p",), ()),)
        refs = (("a", "s"), ("b", "s"))
        one = question(("same", AP, BP), AQ, refs=refs)
        other = question(("same", AP, BP), BQ, refs=refs)
        shapes = shapes_of(one, other)
        P0, P1, Q0, Q1 = ("s", 0, "p"), ("s", 1, "p"), ("s", 0, "q"), ("s", 1, "q")
        self.assertTrue(alike_holds(keyed, one, other, ((shapes[0], END), (shapes[1], ("same", P0, P1, END, END)))))
        self.assertFalse(alike_holds(keyed, one, other, ((shapes[0], END), (shapes[1], END))))
        self.assertFalse(alike_holds(keyed, one, other, ((shapes[0], END), (shapes[1], ("kind", Q0, END, END, END)))))
        free = (("s", keyed[0][1], (), ()),)
        self.assertFalse(alike_holds(free, one, other, ((shapes[0], END), (shapes[1], ("same", P0, P1, END, END)))))
        self.assertEqual(alike(free, one, other)[0], "apart")
        word = ("word", P0, "a", ("word", P1, "a", END, ("same", P0, P1, END, END)), ("same", P1, P0, END, END))
        self.assertTrue(alike_holds(keyed, one, other, ((shapes[0], END), (shapes[1], word))))
        self.assertTrue(alike_holds(keyed, one, other, ((shapes[0], ("kind", Q0, END, END, END)), (shapes[1], word))))
        self.assertFalse(alike_holds(keyed, one, other, ((shapes[0], ("kind", Q1, END, END, END)), (shapes[1], word))))
