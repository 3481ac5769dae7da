"""[6] and the functions of failsalike.facts."""

import copy
import unittest

from failsalike.facts import Facts, fact_holds, is_fact
from tests.samples import R, anything
from tests.standin import SCHEMA, StandIn, shop

KINDS = ("nothing", "number", "word")
COLUMNS = (("item", "name"), ("item", "price"), ("sale", "name"), ("sale", "count"))


class IsFact(unittest.TestCase):
    def check(self, thing, expected):
        before = copy.deepcopy(thing)
        for _ in range(2):
            self.assertIs(is_fact(SCHEMA, thing), expected, repr(thing)[:80])
        self.assertEqual(thing, before)

    def test_no_value_of_a_kind_declared_or_not(self):
        for table, column in COLUMNS:
            for kind in KINDS:
                self.check(("no", table, column, kind), True)

    def test_within(self):
        for table, column in COLUMNS:
            for low, high in ((1, 2), (0, 0), (-5, -5), (-R, R), (R, R), (-R, -R), (-3, 3)):
                self.check(("within", table, column, low, high), True)

    def test_low_above_high(self):
        for low, high in ((1, 0), (0, -1), (R, -R), (-4, -5)):
            self.check(("within", "item", "price", low, high), False)

    def test_beyond_the_range(self):
        for low, high in ((-R - 1, 0), (0, R + 1), (-R - 1, R + 1), (R + 1, R + 2), (-(10**39), 10**39)):
            self.check(("within", "item", "price", low, high), False)

    def test_truths(self):
        for low, high in ((True, 5), (0, True), (False, True), (False, 0), (False, 5)):
            self.check(("within", "item", "price", low, high), False)
        for truth in (True, False):
            for at in range(4):
                fact = ["no", "item", "price", "word"]
                fact[at] = truth
                self.check(tuple(fact), False)

    def test_unknown_tables_and_columns(self):
        for table, column in (("shop", "name"), ("item", "count"), ("sale", "price"), ("name", "item"), ("item", "")):
            self.check(("no", table, column, "word"), False)
            self.check(("within", table, column, 0, 1), False)
        self.assertIs(is_fact((), ("no", "item", "name", "word")), False)

    def test_parts_left_out_too_many_or_exchanged(self):
        facts = [("no", "item", "price", "word"), ("within", "item", "price", 1, 2)]
        for fact in facts:
            for at in range(len(fact)):
                self.check(fact[:at], False)
                self.check(fact[:at] + fact[at + 1 :], False)
                self.check(fact[:at] + (fact[at],) + fact[at:], False)
                for later in range(at + 1, len(fact)):
                    parts = list(fact)
                    parts[at], parts[later] = parts[later], parts[at]
                    self.check(tuple(parts), False)
            self.check(fact + (None,), False)
            self.check((fact,), False)
        self.check(("no", "item", "price", 1, 2), False)
        self.check(("within", "item", "price", "word"), False)

    def test_lists(self):
        self.check(["no", "item", "price", "word"], False)
        self.check(["within", "item", "price", 1, 2], False)
        self.check(("no", ["item"], "price", "word"), False)
        self.check(("no", "item", "price", ["word"]), False)
        self.check(("no", "item", "price", KINDS), False)
        self.check(("within", "item", "price", [1], [2]), False)

    def test_other_words(self):
        self.check(("none", "item", "price", "word"), False)
        self.check(("No", "item", "price", "word"), False)
        self.check(("inside", "item", "price", 1, 2), False)
        for kind in ("words", "Word", "", "bool", "n"):
            self.check(("no", "item", "price", kind), False)

    def test_any_value(self):
        for thing in anything() + [SCHEMA, Facts(1), shop().facts("item", "price")]:
            self.check(thing, False)

    def test_any_value_in_the_place_of_a_part(self):
        for fact in (("no", "item", "price", "word"), ("within", "item", "price", 1, 2)):
            for at in range(len(fact)):
                for thing in anything() + [Facts(1)]:
                    bound = len(fact) == 5 and at >= 3 and type(thing) is int and -R <= thing <= R
                    expected = bound and (thing <= 2 if at == 3 else thing >= 1)
                    self.check(fact[:at] + (thing,) + fact[at + 1 :], expected)

    def test_a_later_table(self):
        schema = SCHEMA + (("total", (("a", ("nothing",)), ("z", ("number",))), ("a", "z"), ()),)
        self.assertIs(is_fact(schema, ("no", "total", "z", "nothing")), True)
        self.assertIs(is_fact(schema, ("within", "total", "a", 1, 1)), True)
        self.assertIs(is_fact(schema, ("no", "total", "name", "nothing")), False)

    def test_parameters_by_name(self):
        self.assertIs(is_fact(schema=SCHEMA, thing=("no", "item", "price", "word")), True)
        self.assertIs(is_fact(thing=(), schema=SCHEMA), False)


class FactHolds(unittest.TestCase):
    def prices(self, *values):
        """A store whose items have these prices."""
        return StandIn(SCHEMA, item=tuple(("cup", value) for value in values), sale=(("pen", 50),))

    def test_each_kind_there_and_not_there(self):
        cases = (((None,), "nothing"), ((3,), "number"), (("a",), "word"), ((0,), "number"), ((None, None), "nothing"))
        for values, there in cases:
            for kind in KINDS:
                self.assertIs(fact_holds(self.prices(*values), ("no", "item", "price", kind)), kind != there)
        for kind in KINDS:
            self.assertIs(fact_holds(self.prices(None, 3, "a"), ("no", "item", "price", kind)), False)

    def test_numbers_at_and_beyond_both_bounds(self):
        store = self.prices(3, 7, 5)
        cases = ((3, 7, True), (2, 8, True), (-R, R, True), (4, 7, False), (3, 6, False), (4, 6, False))
        for low, high, expected in cases + ((8, 9, False), (1, 2, False), (5, 5, False), (3, R, True), (-R, 7, True)):
            self.assertIs(fact_holds(store, ("within", "item", "price", low, high)), expected, (low, high))

    def test_the_ends_of_the_range(self):
        store = self.prices(R, -R)
        self.assertIs(fact_holds(store, ("within", "item", "price", -R, R)), True)
        self.assertIs(fact_holds(store, ("within", "item", "price", 1 - R, R)), False)
        self.assertIs(fact_holds(store, ("within", "item", "price", -R, R - 1)), False)

    def test_words_and_nothing_beside_numbers(self):
        store = self.prices(None, 4, "a", None)
        for low, high, expected in ((4, 4, True), (5, 9, False), (0, 3, False), (0, 9, True)):
            self.assertIs(fact_holds(store, ("within", "item", "price", low, high)), expected)

    def test_without_numbers(self):
        for values in ((None,), ("a",), (None, "a")):
            for low, high in ((0, 0), (5, 9), (-R, R)):
                self.assertIs(fact_holds(self.prices(*values), ("within", "item", "price", low, high)), True)

    def test_a_table_without_rows(self):
        store = StandIn(SCHEMA, sale=(("pen", 50),))
        for column in ("name", "price"):
            for kind in KINDS:
                self.assertIs(fact_holds(store, ("no", "item", column, kind)), True)
            for low, high in ((0, 0), (R, R), (-R, R)):
                self.assertIs(fact_holds(store, ("within", "item", column, low, high)), True)

    def test_each_column_by_itself(self):
        store = StandIn(SCHEMA, item=(("cup", None), ("hat", None)), sale=(("pen", 50),))
        self.assertIs(fact_holds(store, ("no", "item", "name", "nothing")), True)
        self.assertIs(fact_holds(store, ("no", "item", "price", "nothing")), False)
        self.assertIs(fact_holds(store, ("no", "sale", "name", "word")), False)
        self.assertIs(fact_holds(store, ("within", "sale", "name", 1, 2)), True)
        self.assertIs(fact_holds(store, ("within", "sale", "count", 1, 2)), False)

    def test_nothing_is_changed_and_answers_stay(self):
        store = self.prices(None, 4, "a")
        rows, facts = store.rows("item"), store.facts("item", "price")
        fact = ("within", "item", "price", 4, 5)
        self.assertEqual([fact_holds(store, fact), fact_holds(store, fact)], [True, True])
        self.assertEqual([store.rows("item"), store.facts("item", "price")], [rows, facts])
        self.assertEqual(fact, ("within", "item", "price", 4, 5))

    def test_parameters_by_name(self):
        self.assertIs(fact_holds(store=shop(), fact=("no", "item", "name", "number")), True)

    def test_the_example(self):
        found = [fact_holds(shop(), ("no", "sale", "count", "word"))]
        found.append(fact_holds(shop(), ("within", "item", "price", 5, 9)))
        self.assertEqual(found, [True, False])
