"""Papers: beside a search through all values that facts leave, and spoilt at one place each."""

import random
import time
import unittest

from failsalike.errors import TooGreat
from failsalike.facts import fact_holds
from failsalike.goals import goals_of
from failsalike.papers import paper_holds, paper_of
from failsalike.questions import is_question
from tests.chance import KINDS, some_question, some_schema, some_store
from tests.everyvalue import EveryPaper, goal_number, goal_places, has_inner, main_parts
from tests.oracle import Oracle
from tests.samples import anything, nested
from tests.shop import ONE, TWO, shop
from tests.spoiling import NODES, part_of, places, spoiled

R = 10**12
SCHEMA = (
    ("t", (("p", KINDS), ("q", KINDS), ("n", ("number",)), ("w", ("word",))), (), ()),
    ("u", (("x", KINDS), ("y", ("nothing", "number"))), (), ()),
)
P, Q, N, W = [("column", "a", name) for name in ("p", "q", "n", "w")]
AP, AQ, AN, AW = [("a", name) for name in ("p", "q", "n", "w")]
END = ("end",)
INNER = ((("i", "u"),), ("less", ("column", "i", "y"), ("column", "a", "n")))
EXISTS = ("exists", INNER)
FIRST = ("first", INNER, ("column", "i", "x"))


def question(where, *told, refs=(("a", "t"),)):
    return (refs, where, told or (N,), (), None)


def some_facts(rng, schema):
    """Facts that leave few numbers in each column, in any order."""
    facts = []
    for name, columns, _, _ in schema:
        for column, kinds in columns:
            low = rng.choice((0, 0, 0, 1, -1, R - 2, -R, R - 1))
            facts.append(("within", name, column, low, min(R, low + rng.randint(0, 2))))
            facts += [("no", name, column, kind) for kind in KINDS if rng.random() < 0.15]
    if rng.random() < 0.2:
        fact = rng.choice(facts)
        facts.append(rng.choice((fact, ("within", fact[1], fact[2], 5, 6))))
    rng.shuffle(facts)
    return tuple(facts)


def some_about(rng, question, schema):
    alias, table = rng.choice(question[0])
    columns = [column for name, columns, _, _ in schema if name == table for column, _ in columns]
    low = rng.choice((0, 1, -1, R - 1, -R))
    return (alias, rng.choice(columns), low, min(R, low + rng.randint(0, 3)))


class Beside(unittest.TestCase):
    def drawn(self, seed, many):
        """Drawn questions, goals, facts, what papers are about, and all values."""
        rng = random.Random(seed)
        made = 0
        while made < many:
            schema = some_schema(rng, ("t", "u"))
            asked = some_question(rng, schema, 2, rng.choice((0, 1, 2)), 0, 0)
            facts = some_facts(rng, schema)
            about = some_about(rng, asked, schema) if rng.random() < 0.4 else None
            goal = rng.randrange(len(goals_of(asked)))
            every = EveryPaper(schema, asked, goal, facts, about, ("a", "b", "cup"))
            if len(every.all) <= 1500:
                made += 1
                yield rng, schema, asked, goal, facts, about, every

    def test_papers_are_right_and_there_if_there_are_some(self):
        there = []
        for rng, schema, asked, goal, facts, about, every in self.drawn(1, 500):
            case = (schema, asked, goal, facts, about)
            try:
                paper = paper_of(schema, asked, goal, *facts, about=about)
            except TooGreat:
                self.assertTrue(len(main_parts(asked)) - len(asked[2]) > 3 or "plus" in repr(asked), case)
                continue
            self.assertEqual(paper is None, every.is_hit(), case)
            there.append(paper is not None)
            if paper is not None:
                self.assertIs(paper_holds(schema, asked, goal, facts, paper, about=about), True, case)
                self.assertTrue(every.right(paper), (case, paper))
        self.assertGreater(min(there.count(True), there.count(False)), 100)

    def test_spoilt_papers(self):
        right = []
        for rng, schema, asked, goal, facts, about, every in self.drawn(2, 400):
            try:
                paper = paper_of(schema, asked, goal, *facts, about=about)
            except TooGreat:
                continue
            if paper is not None:
                for _ in range(8):
                    other = spoiled(rng, paper, every.unknowns, list(every.hidden_outcomes))
                    if isinstance(other, tuple) and rng.random() < 0.3:
                        other = spoiled(rng, other, every.unknowns, list(every.hidden_outcomes))
                    holds = paper_holds(schema, asked, goal, facts, other, about=about)
                    right.append(holds)
                    self.assertIs(holds, every.right(other), (schema, asked, goal, facts, about, other))
        self.assertGreater(min(right.count(True), right.count(False)), 40)

    def test_no_combination_of_a_drawn_store_has_the_goal_of_a_paper(self):
        rng = random.Random(3)
        looked_at = 0
        while looked_at < 150:
            schema = some_schema(rng, ("t", "u"))
            asked = some_question(rng, schema, 2, 1, 0, 0)
            store = some_store(rng, schema, 3)
            facts = [fact for fact in some_facts(rng, schema) if fact_holds(store, fact)]
            about = some_about(rng, asked, schema) if rng.random() < 0.4 else None
            results = [(way, Oracle(store).result(asked, way)) for way in Oracle(store).ways(asked[0])]
            for goal in range(len(goals_of(asked))):
                try:
                    paper = paper_of(schema, asked, goal, *facts, about=about)
                except TooGreat:
                    continue
                if paper is not None and results:
                    looked_at += 1
                    for way, result in results:
                        if goal_number(goal_places(asked), result) == goal:
                            self.assertIsNotNone(about)
                            bound = Oracle(store).bind([], asked[0], way)
                            value = Oracle(store).eval(bound, ("column", *about[:2]), ())[1]
                            self.assertTrue(isinstance(value, int) and about[2] <= value <= about[3])


class Papers(unittest.TestCase):
    def holds(self, asked, goal, thing, *facts, about=None):
        return paper_holds(SCHEMA, asked, goal, facts, thing, about=about)

    def check(self, asked, goal, *facts, about=None):
        """The paper, which is right; None if there is none."""
        paper = paper_of(SCHEMA, asked, goal, *facts, about=about)
        if paper is not None:
            self.assertTrue(self.holds(asked, goal, paper, *facts, about=about))
            # The order of facts, and how often they are told, changes nothing.
            self.assertTrue(self.holds(asked, goal, paper, *reversed(facts), *facts, about=about))
        return paper

    def test_the_examples(self):
        schema = shop().schema
        self.assertIs(paper_holds(schema, ONE, 1, (), END), True)
        self.assertIs(paper_holds(schema, ONE, 2, (), END), False)
        self.assertIsNone(paper_of(schema, ONE, 2))
        self.assertIsNotNone(paper_of(schema, TWO, 2))
        facts = (("no", "item", "price", "nothing"), ("no", "item", "price", "word"))
        self.assertIsNotNone(paper_of(schema, ONE, 2, *facts))
        self.assertIsNone(paper_of(schema, ONE, 2, *facts[1:]))

    def test_names_of_parameters(self):
        paper = paper_of(schema=SCHEMA, question=question(None), goal=0, about=("a", "n", -R, R), limit=5)
        self.assertTrue(
            paper_holds(schema=SCHEMA, question=question(None), goal=0, facts=(), thing=paper, about=("a", "n", -R, R))
        )

    def test_facts_about_columns_that_are_not_named(self):
        asked = question(("less", P, N))
        self.assertIsNone(self.check(asked, 1, ("no", "t", "q", "number"), ("within", "u", "x", 1, 2)))
        # Nothing is left for a column that no main part names: it is no unknown.
        self.assertIsNone(self.check(asked, 1, *[("no", "t", "q", kind) for kind in KINDS]))
        self.assertEqual(self.check(asked, 1, *[("no", "t", "p", kind) for kind in KINDS]), END)
        self.assertEqual(self.check(asked, 1, ("no", "t", "p", "word"), ("no", "t", "p", "nothing")), END)

    def test_facts_that_exclude_one_another(self):
        asked = question(("less", N, ("value", 3)))
        far = (("within", "t", "n", 0, 3), ("within", "t", "n", 5, 9))
        self.assertEqual(self.check(asked, 0, *far), END)
        self.assertIsNone(self.check(asked, 0, *far[:1]))
        self.assertTrue(self.holds(asked, 0, END, ("no", "t", "n", "number")))
        # Kinds that are left beside numbers that are not.
        mixed = question(("same", P, W))
        p_far = (("within", "t", "p", 0, 3), ("within", "t", "p", 5, 9))
        self.assertIsNone(self.check(mixed, 1, *p_far))
        self.assertTrue(self.holds(mixed, 1, END, *p_far, ("no", "t", "p", "nothing")))

    def test_bounds_at_the_ends_of_the_range(self):
        asked = question(None, ("plus", N, 2))
        self.assertIsNone(self.check(asked, 1))
        self.assertIsNone(self.check(asked, 1, ("within", "t", "n", 0, R - 1)))
        self.assertEqual(self.check(asked, 1, ("within", "t", "n", -R, R - 2)), END)
        low = question(None, ("plus", ("plus", N, -1), -1))
        self.assertIsNone(self.check(low, 1, ("within", "t", "n", -R + 1, R)))
        self.assertEqual(self.check(low, 1, ("within", "t", "n", -R + 2, R)), END)

    def test_what_fails_before(self):
        asked = question(("and", ("same", P, P), ("less", P, N)))
        paper = self.check(question(("and", ("is", P, "number"), ("less", P, N))), 1)
        self.assertIsNotNone(paper)
        self.assertIsNone(self.check(asked, 2))
        self.assertIsNotNone(self.check(asked, 2, ("no", "t", "p", "word")))

    def test_a_value_compared_with_itself_need_have_no_kind(self):
        asked = question(("and", ("same", P, P), ("less", Q, N)))
        facts = (("no", "t", "p", "nothing"), ("no", "t", "q", "nothing"), ("no", "t", "q", "word"))
        self.assertTrue(self.holds(question(("not", ("same", P, P))), 0, END, *facts))
        self.assertFalse(self.holds(question(("not", ("same", P, Q))), 0, END, *facts))
        self.assertTrue(self.holds(asked, 2, END, *facts))
        # Nothing is asked before its kind is settled.
        self.assertFalse(self.holds(question(("not", ("same", P, P))), 0, END, *facts[1:]))

    def test_what_same_asks(self):
        asked = question(("same", P, N))
        number = [("no", "t", "p", "word"), ("no", "t", "p", "nothing")]
        self.assertTrue(self.holds(asked, 0, END, ("no", "t", "p", "number"), ("no", "t", "p", "nothing")))
        # Both may be a number, and equal.
        self.assertFalse(self.holds(asked, 0, END, *number))
        self.assertTrue(self.holds(asked, 0, END, *number, ("within", "t", "p", 0, 3), ("within", "t", "n", 4, 9)))
        # Whether it is nothing must be settled, even if both differ.
        self.assertFalse(self.holds(asked, 0, END, ("no", "t", "p", "number")))
        self.assertTrue(self.holds(asked, 0, ("kind", AP, END, END, END), ("no", "t", "p", "number")))

    def test_a_failure_is_the_last_test(self):
        # The first value is no number: of the second one nothing is asked.
        self.assertTrue(self.holds(question(("less", W, P)), 0, END))
        self.assertFalse(self.holds(question(("less", P, W)), 0, END))
        self.assertTrue(self.holds(question(("less", P, W)), 0, ("kind", AP, END, END, END)))
        self.assertTrue(self.holds(question(("same", ("value", None), P)), 0, END))
        self.assertTrue(self.holds(question(("less", P, N)), 0, END, ("no", "t", "p", "number")))
        self.assertTrue(self.holds(question(("less", ("plus", W, 1), P)), 0, END))
        self.assertFalse(self.holds(question(("less", P, ("plus", W, 1))), 1, END))

    def test_where_evaluation_is_not_settled_but_its_main_part_never_fails(self):
        asked = question(("and", ("same", P, Q), ("less", N, ("value", 3))))
        self.assertTrue(self.holds(asked, 2, END))
        self.assertFalse(self.holds(asked, 1, END))
        # For the match there is no main part.
        self.assertFalse(self.holds(asked, 0, END))
        self.assertTrue(self.holds(question(("less", N, ("value", 3)), ("plus", N, 0)), 2, END))

    def test_main_parts_with_inner_questions(self):
        asked = question(("and", EXISTS, ("same", P, Q)))
        self.assertIsNone(self.check(asked, 1))
        # It is evaluated first: none of its outcomes is settled.
        self.assertFalse(self.holds(asked, 1, END))
        self.assertFalse(self.holds(asked, 0, END))
        node = ("leaf", (1, 1), END, END, END)
        never = ("no", "t", "p", "nothing"), ("no", "t", "q", "nothing")
        self.assertFalse(self.holds(asked, 2, node))
        self.assertTrue(self.holds(asked, 2, node, *never))
        self.assertTrue(self.holds(asked, 2, END, *never))
        other = question(("and", ("not", ("same", W, W)), EXISTS))
        self.assertEqual(goal_places(other), [(), (1, 1, 1), (1, 2)])
        self.assertTrue(self.holds(other, 2, END))
        self.assertTrue(self.holds(other, 2, ("leaf", (1, 2), END, END, END)))
        self.assertFalse(self.holds(other, 2, ("leaf", (1, 1, 1), END, END, END)))
        self.assertFalse(self.holds(other, 2, ("leaf", (1, 1), END, END, END)))

    def test_leaf_nodes_stand_once_on_a_way(self):
        asked = question(("and", ("not", ("same", W, W)), EXISTS))
        node = ("leaf", (1, 2), END, END, END)
        twice = ("leaf", (1, 2), node, END, END)
        self.assertFalse(self.holds(asked, 2, twice))
        self.assertFalse(self.holds(asked, 2, ("leaf", (1, 2), END, END, ("kind", AW, node, END, END))))
        # Also where the atoms contradict one another.
        none = [("no", "t", "w", "word")]
        self.assertTrue(self.holds(asked, 2, node, *none))
        self.assertFalse(self.holds(asked, 2, twice, *none))
        # On two ways each has its own.
        self.assertTrue(self.holds(asked, 2, ("kind", AW, node, node, node)))

    def test_the_trees_of_a_leaf_node(self):
        asked = question(("and", ("not", ("same", W, W)), EXISTS), FIRST)
        where, told = ("leaf", (1, 2), END, END, END), ("leaf", (2, 0), END, END, END)
        self.assertTrue(self.holds(asked, 2, where))
        self.assertTrue(self.holds(asked, 2, told))
        self.assertTrue(self.holds(asked, 2, ("leaf", (2, 0), where, END, where)))
        # Of a told term, false is not looked at, and is an end.
        for thing in (where, ("end", END), [], None, ("en",), ("kind", AW, END, END, END)):
            self.assertFalse(self.holds(asked, 2, ("leaf", (2, 0), END, thing, END)))
        self.assertTrue(self.holds(asked, 2, ("leaf", (1, 2), END, told, told)))
        for at in (2, 3, 4):
            for thing in (None, (), [], "end", ("leaf",), ["end"], {"end": 1}):
                self.assertFalse(self.holds(asked, 2, where[:at] + (thing,) + where[at + 1 :]))

    def test_a_part_that_cannot_fail_has_three_trees_too(self):
        inner = ((("i", "u"),), ("is", ("column", "i", "y"), "number"))
        asked = question(("and", ("exists", inner), ("less", P, N)))
        self.assertEqual(goal_places(asked), [(), (1, 2)])
        safe = (("no", "t", "p", "word"), ("no", "t", "p", "nothing"))
        self.assertTrue(self.holds(asked, 1, ("leaf", (1, 1), END, END, END), *safe))
        self.assertFalse(self.holds(asked, 1, ("leaf", (1, 1), END, END), *safe))
        self.assertFalse(self.holds(asked, 1, ("leaf", (1, 1), END, END, None), *safe))
        # Its failure is the goal of no result.
        fails = question(("and", ("not", ("exists", inner)), ("same", W, ("value", "a"))))
        never = [("no", "t", "w", "word")]
        self.assertIsNone(self.check(fails, 0))
        self.assertIsNotNone(self.check(fails, 0, *never))
        tree = ("leaf", (1, 1, 1), END, ("word", AW, "a", END, END), END)
        self.assertFalse(self.holds(fails, 0, tree))
        self.assertTrue(self.holds(fails, 0, tree, about=None, *never))
        third = question(("and", ("exists", inner), ("not", ("same", W, W))))
        self.assertTrue(self.holds(third, 0, ("leaf", (1, 1), END, END, END)))

    def test_places_of_leaf_nodes_are_exact(self):
        asked = question(("and", ("not", ("same", W, W)), EXISTS))
        for place in ((True, 2), (1, 2, 1), (1,), (), [1, 2], "12", None, (1.0, 2), ((1, 2),), 1, {1: 2}, nested(9)):
            self.assertFalse(self.holds(asked, 2, ("leaf", place, END, END, END)), place)
        told = question(None, N, FIRST)
        self.assertEqual(goal_places(told), [(), (2, 1)])
        self.assertFalse(self.holds(told, 0, ("leaf", (2, True), END, END, END), ("no", "t", "n", "number")))
        self.assertTrue(self.holds(told, 0, ("leaf", (2, 1), END, END, END), ("no", "t", "n", "number")))

    def test_about_a_range(self):
        asked = question(("and", ("less", N, ("value", 9)), ("less", ("value", 2), N)))
        self.assertIsNone(self.check(asked, 0, about=("a", "n", 3, 7)))
        self.assertIsNone(self.check(asked, 0, about=("a", "n", 4, 8)))
        self.assertIsNotNone(self.check(asked, 0, about=("a", "n", 3, 8)))
        self.assertIsNotNone(self.check(asked, 0, about=("a", "n", -R, R)))
        self.assertTrue(self.holds(asked, 0, END, about=("a", "n", -R, R)))
        self.assertTrue(self.holds(asked, 0, END, ("within", "t", "n", 3, 4), about=("a", "n", 3, 5)))
        self.assertFalse(self.holds(asked, 0, END, ("within", "t", "n", 2, 4), about=("a", "n", 3, 5)))
        self.assertFalse(self.holds(asked, 0, END, ("within", "t", "n", 3, 6), about=("a", "n", 3, 5)))

    def test_about_a_column_that_no_main_part_names(self):
        asked = question(("less", N, ("value", 9)))
        self.assertIsNone(self.check(asked, 0, about=("a", "p", -R, R)))
        about = ("a", "p", 0, 5)
        facts = (("no", "t", "p", "word"), ("no", "t", "p", "nothing"), ("within", "t", "p", 1, 5))
        self.assertEqual(self.check(asked, 0, *facts, about=about), END)
        self.assertTrue(self.holds(asked, 0, ("kind", AP, END, END, END), *facts, about=about))
        # It is an unknown of papers about it, and of no others.
        tree = ("kind", AP, END, END, END)
        self.assertTrue(self.holds(asked, 1, END))
        self.assertFalse(self.holds(asked, 1, tree))
        self.assertTrue(self.holds(asked, 1, tree, about=about))
        self.assertEqual(self.check(asked, 0, *[("no", "t", "p", kind) for kind in KINDS], about=about), END)

    def test_unknowns(self):
        asked = question(("same", P, P), FIRST)
        for unknown, fits in ((AP, True), (AQ, False), (AN, False), (("i", "x"), False), (("i", "y"), False)):
            self.assertEqual(self.holds(asked, 1, ("kind", unknown, END, END, END), ("no", "t", "p", "nothing")), fits)
        for unknown in ("p", (), ("a",), ["a", "p"], ("a", "p", 0), ("t", "p"), None, ("p", "a"), [AP], {}, ([], "p")):
            self.assertFalse(self.holds(asked, 1, ("kind", unknown, END, END, END), ("no", "t", "p", "nothing")))

    def test_needless_nodes(self):
        asked = question(("less", N, ("value", 3)), W)
        for tree in (
            ("most", AN, (), 5, END, END),
            ("most", (), AN, 5, END, END),
            ("most", AN, AN, -1, END, END),
            ("most", AN, AN, 10**39, END, END),
            ("word", AW, "cup", END, END),
            ("same", AW, AW, END, END),
            ("kind", AN, END, END, END),
            ("kind", AN, ("word", AN, "cup", END, END), END, ("same", AN, AW, END, END)),
            ("most", AN, (), -R - 1, ("same", AN, AN, END, END), END),
        ):
            self.assertTrue(self.holds(asked, 1, tree), tree)
        for tree in (
            ("most", AN, (), True, END, END),
            ("most", AN, (), None, END, END),
            ("most", AN, (), "a", END, END),
            ("most", (), (), 0, END, END),
            ("most", AN, AW, 0, END, END),
            ("most", AN, None, 0, END, END),
            ("most", AN, [], 0, END, END),
            ("word", AN, "cup", END, END),
            ("word", AW, "Cup", END, END),
            ("word", AW, "abcdefghi", END, END),
            ("word", AW, None, END, END),
            ("word", (), "cup", END, END),
            ("same", AW, AN, END, END),
            ("same", AW, "cup", END, END),
            ("same", AW, (), END, END),
            ("kind", (), END, END, END),
            ("kind", AN, END, END),
            ("kind", AN, END, END, END, END),
            ("end", END),
            ("hit",),
            ("kind", AN, END, ("word", AN, "cup", END, END), END),
            ("most", AN, (), -R - 1, ("same", AN, AQ, END, END), END),
        ):
            self.assertFalse(self.holds(asked, 1, tree), tree)

    def test_two_refs_of_one_table(self):
        refs = (("a", "t"), ("b", "t"))
        asked = question(("less", P, ("column", "b", "p")), refs=refs)
        fact = (("no", "t", "p", "word"), ("no", "t", "p", "nothing"))
        self.assertEqual(self.check(asked, 1, *fact), END)
        self.assertIsNone(self.check(asked, 1, fact[0]))
        self.assertFalse(self.holds(asked, 1, ("kind", ("t", "p"), END, END, END), *fact))
        self.assertTrue(self.holds(asked, 1, ("kind", ("b", "p"), END, END, END), *fact))

    def test_orders_and_limits_change_nothing(self):
        for order, limit in (((), 0), ((Q,), None), ((P, Q), 3)):
            asked = (*question(("less", P, N))[:3], order, limit)
            self.assertIsNone(self.check(asked, 1))
            self.assertIsNone(self.check(asked, 0))
            self.assertFalse(self.holds(asked, 1, ("kind", AQ, END, END, END), ("no", "t", "p", "number")))

    def test_values_of_all_kinds(self):
        for thing in anything() + [(END,), ("end", "end"), "end", ["end"], ("end", None), shop(), (1, 2, 3, 4, 5)]:
            self.assertIs(self.holds(question(None), 0, thing, ("no", "t", "n", "number")), False)
        self.assertIs(self.holds(question(None), 0, END, ("no", "t", "n", "number")), True)

    def test_deep_trees(self):
        asked = question(("less", N, ("value", 3)))
        tree = END
        for at in range(5000):
            tree = ("most", AN, (), at, tree, END)
        self.assertTrue(self.holds(asked, 1, tree))
        self.assertFalse(self.holds(asked, 0, tree))


def is_tree_at(tree, place):
    part = part_of(tree, place)
    return isinstance(part, tuple) and part[:1] != () and part[0] in NODES


class Limits(unittest.TestCase):
    def test_too_great(self):
        asked = question(("and", ("less", P, N), ("less", Q, N)))
        facts = (("within", "t", "p", 0, 3), ("within", "t", "n", -5, -1))
        for limit in (0, 1, 3, 5, 100, 5000):
            try:
                paper = paper_of(SCHEMA, asked, 0, *facts, limit=limit)
                self.assertTrue(paper_holds(SCHEMA, asked, 0, facts, paper))
                self.assertGreaterEqual(limit, 5)
            except TooGreat as error:
                self.assertEqual(error.limit, limit)
                self.assertLess(limit, 100)

    def test_as_many_parts_as_the_limit(self):
        self.assertEqual(paper_of(SCHEMA, question(("less", N, N)), 1, limit=1), END)
        asked = question(("and", ("is", P, "number"), ("less", P, N)))
        paper = paper_of(SCHEMA, asked, 1)
        self.assertEqual(paper, paper_of(SCHEMA, asked, 1, limit=len([at for at in places(paper) if is_tree_at(paper, at)])))

    def test_never_too_great_for_three_leaves(self):
        rng = random.Random(9)
        schema = tuple((name, tuple((column, KINDS) for column in "pqxy"), (), ()) for name in "rstu")
        there = 0
        began = time.process_time()
        for _ in range(600):
            asked = self.some_three(rng)
            self.assertTrue(is_question(schema, asked), asked)
            facts = [("no", table, column, rng.choice(KINDS)) for table in "rstu" for column in "pqxy"]
            facts = rng.sample(facts, rng.randint(0, 8))
            for table in "rstu":
                low = rng.choice((0, 10, -R, R - 9))
                facts += [("within", table, column, low, low + 9) for column in "pqxy" if rng.random() < 0.3]
            about = ("a", rng.choice("pqxy"), -R, rng.choice((5, R))) if rng.random() < 0.5 else None
            for goal in range(len(goals_of(asked))):
                paper = paper_of(schema, asked, goal, *facts, about=about)
                if paper is not None:
                    there += 1
                    self.assertTrue(paper_holds(schema, asked, goal, tuple(facts), paper, about=about))
        self.assertGreater(there, 200)
        self.assertLess(time.process_time() - began, 40)

    def some_three(self, rng):
        refs = (("a", "r"), ("b", rng.choice("rs")), ("c", "t"))[: rng.randint(1, 3)]
        inner = [((("i", "u"),), ("less", ("column", "i", "p"), ("column", "a", "q")))]

        def term():
            if inner and rng.random() < 0.15:
                return (rng.choice(("first", "only")), inner.pop(), ("column", "a", "x"))
            column = ("column", rng.choice(refs)[0], rng.choice("pqxy"))
            return column if rng.random() < 0.85 else ("value", rng.choice((None, 3, "a")))

        def leaf():
            word = rng.choice(("same", "same", "less", "most", "is"))
            return ("is", term(), rng.choice(KINDS)) if word == "is" else (word, term(), term())

        def both(one, other):
            made = (rng.choice(("and", "or")), one, other)
            return ("not", made) if rng.random() < 0.3 else made

        where = both(leaf(), both(leaf(), leaf()))
        return (refs, where, tuple(term() for _ in range(rng.randint(1, 4))), (), None)

    def test_more_facts_mean_more_papers(self):
        rng = random.Random(4)
        for _ in range(80):
            schema = some_schema(rng, ("t", "u"))
            asked = some_question(rng, schema, 2, 1, 0, 0)
            facts = some_facts(rng, schema)
            for goal in range(len(goals_of(asked))):
                try:
                    without = paper_of(schema, asked, goal)
                    if without is not None:
                        self.assertTrue(paper_holds(schema, asked, goal, (), without))
                        self.assertIsNotNone(paper_of(schema, asked, goal, *facts, limit=5000))
                except TooGreat:
                    self.assertTrue("plus" in repr(asked) or len(main_parts(asked)) > 4 or has_inner(asked))
