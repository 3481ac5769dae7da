"""[5], [6] and the other methods of failsalike.stores, on what tables hold."""

import unittest
from itertools import product

from failsalike.errors import BadRow, KeyTaken, NoColumn, NoRow, NoTable
from failsalike.facts import Facts, fact_holds
from failsalike.stores import Store
from tests.samples import R, VALUES, anything, nested
from tests.shop import shop
from tests.standin import SCHEMA

KINDS = ("nothing", "number", "word")


def single(kinds=KINDS, **more):
    """A store with one table t that has one column x."""
    store = Store()
    store.make("t", (("x", kinds),), **more)
    return store


def keyed(*keys):
    """A store with a table t whose columns a, b and c take everything, and these keys."""
    store = Store()
    store.make("t", tuple((name, KINDS) for name in ("c", "a", "b")), keys=keys)
    return store


class Case(unittest.TestCase):
    def refused(self, store, error, told, method, *arguments):
        """A call raises this error with this attribute, and changes nothing."""
        before = store.copy()
        with self.assertRaises(error) as caught:
            getattr(store, method)(*arguments)
        [(_, got)] = vars(caught.exception).items()
        self.assertEqual((got, got.__class__), (told, told.__class__), (method, arguments))
        self.assertEqual(store, before)


def tables_not_there():
    """Things that are the name of no table of the shop."""
    return anything() + ["items", "sale ", "Item", "price", ("item",), ["item"], {"item": 1}, Facts(1), shop()]


class Put(Case):
    def test_values_of_each_kind_in_columns_of_each_tuple_of_kinds(self):
        of_kinds = {"nothing": (None,), "number": (0, -R, R, 1), "word": ("a", "abcdefgh")}
        for bits in list(product((0, 1), repeat=3))[1:]:
            kinds = tuple(kind for kind, is_in in zip(KINDS, bits) if is_in)
            for kind, values in of_kinds.items():
                for value in values:
                    store = single(kinds)
                    if kind in kinds:
                        self.assertEqual(store.put("t", value), 0)
                        self.assertEqual(store.rows("t"), ((0, (value,)),))
                    else:
                        self.refused(store, BadRow, 0, "put", "t", value)

    def test_the_ends_of_the_range(self):
        store = single()
        for value in (R, -R, R - 1, 1 - R):
            store.put("t", value)
        for value in (R + 1, -R - 1, 10**39, -(10**39)):
            self.refused(store, BadRow, 0, "put", "t", value)

    def test_no_values(self):
        for thing in anything():
            if thing is None or type(thing) in (int, str) and thing in VALUES:
                continue
            self.refused(single(), BadRow, 0, "put", "t", thing)
        for thing in (Facts(1), shop(), nested(20), True, False):
            self.refused(single(), BadRow, 0, "put", "t", thing)

    def test_truths_are_no_numbers_beside_equal_ones(self):
        store = single(("number",), keys=("x",))
        store.put("t", 1)
        self.refused(store, BadRow, 0, "put", "t", True)
        self.refused(store, KeyTaken, "x", "put", "t", 1)

    def test_the_first_wrong_column(self):
        store = keyed()
        right, wrong = 3, "A"
        for bits in list(product((0, 1), repeat=3))[1:]:
            values = [wrong if bit else right for bit in bits]
            self.refused(store, BadRow, bits.index(1), "put", "t", *values)

    def test_too_few_and_too_many(self):
        store = keyed()
        for values in ((), (1,), (1, 2), (1, 2, 3, 4), (1, 2, 3, "A"), (1, 2, 3, True, [], None)):
            self.refused(store, BadRow, 3, "put", "t", *values)
        for values in ((True,), (True, 2), (True, 2, 3, 4), ([], "A", 3, 4)):
            self.refused(store, BadRow, 0, "put", "t", *values)
        self.refused(store, BadRow, 2, "put", "t", 1, 2, "A", "A")
        self.refused(store, BadRow, 1, "put", "t", 1, {})

    def test_keys(self):
        for value in VALUES:
            store = single(keys=("x",))
            for other in VALUES:
                if other != value:
                    store.put("t", other)
            self.assertEqual(store.put("t", value), len(VALUES) - 1)
            self.refused(store, KeyTaken, "x", "put", "t", value)

    def test_none_twice_in_a_key(self):
        store = single(keys=("x",))
        store.put("t", None)
        self.refused(store, KeyTaken, "x", "put", "t", None)

    def test_columns_that_are_no_keys(self):
        store = keyed("b")
        store.put("t", 1, 2, 3)
        self.assertEqual([store.put("t", 1, 2, 4), store.put("t", 1, 2, None)], [1, 2])

    def test_the_first_key_as_names_ascend(self):
        store = keyed("a", "b", "c")
        store.put("t", 1, 2, 3)
        for values, told in (((1, 2, 3), "a"), ((1, 9, 3), "b"), ((1, 9, 9), "c"), ((9, 2, 3), "a"), ((9, 9, 3), "b")):
            self.refused(store, KeyTaken, told, "put", "t", *values)
        store.put("t", 4, 5, 6)
        self.refused(store, KeyTaken, "a", "put", "t", 1, 5, 3)
        self.assertEqual(store.put("t", 2, 3, 1), 2)

    def test_wrong_rows_ahead_of_keys(self):
        store = keyed("a")
        store.put("t", 1, 2, 3)
        self.refused(store, BadRow, 3, "put", "t", 1, 2)
        self.refused(store, BadRow, 0, "put", "t", True, 2, 3)
        self.refused(store, BadRow, 3, "put", "t", 1, 2, 3, 4)

    def test_tables_not_there(self):
        for thing in tables_not_there():
            for values in ((), ("cup", 4), (True,)):
                self.refused(shop(), NoTable, thing, "put", thing, *values)
            self.refused(Store(), NoTable, thing, "put", thing)

    def test_numbers_go_on_behind_rows_taken_out(self):
        store = single()
        self.assertEqual([store.put("t", k) for k in range(3)], [0, 1, 2])
        store.take("t", 2)
        self.assertEqual(store.put("t", 5), 3)
        for number in (0, 1, 3):
            store.take("t", number)
        self.assertEqual((store.rows("t"), store.put("t", 6)), ((), 4))
        self.assertEqual(store.rows("t"), ((4, (6,)),))

    def test_each_table_counts_by_itself(self):
        store = shop()
        self.assertEqual([store.put("item", "a", 1), store.put("sale", "a", 1), store.put("item", "a", 1)], [3, 2, 4])

    def test_refused_rows_use_no_number(self):
        store = single(("number",))
        self.refused(store, BadRow, 0, "put", "t", "a")
        self.assertEqual(store.put("t", 1), 0)

    def test_many_rows(self):
        store = single()
        self.assertEqual([store.put("t", k) for k in range(60)], list(range(60)))

    def test_the_example(self):
        self.refused(shop(), KeyTaken, "name", "put", "sale", "cup", 3)


class Take(Case):
    def test_a_number_that_is_there(self):
        for number in range(3):
            store = shop()
            rows = store.rows("item")
            self.assertIsNone(store.take("item", number))
            self.assertEqual(store.rows("item"), rows[:number] + rows[number + 1 :])
            self.assertEqual(store.rows("sale"), shop().rows("sale"))

    def test_numbers_that_are_not_there(self):
        store = shop()
        store.take("item", 1)
        for number in (1, 3, 4, -1, -3, 10**12, 10**39, -(10**39)):
            self.refused(store, NoRow, number, "take", "item", number)
        self.refused(Store.of(SCHEMA), NoRow, 0, "take", "item", 0)

    def test_no_numbers(self):
        for thing in anything() + [Facts(0), shop(), "0", "1", (0,), [1], {0: 0}]:
            if type(thing) is int and 0 <= thing < 3:
                continue
            self.refused(shop(), NoRow, thing, "take", "item", thing)

    def test_truths_are_the_numbers_of_no_rows(self):
        for truth in (False, True):
            self.refused(shop(), NoRow, truth, "take", "item", truth)
            self.refused(shop(), NoRow, truth, "take", "sale", truth)

    def test_tables_not_there(self):
        for thing in tables_not_there():
            for number in (0, 99, True, "a"):
                self.refused(shop(), NoTable, thing, "take", thing, number)

    def test_the_value_of_a_key_may_be_put_again(self):
        store = shop()
        self.refused(store, KeyTaken, "name", "put", "sale", "cup", 3)
        store.take("sale", 0)
        self.assertEqual(store.put("sale", "cup", 3), 2)
        self.refused(store, KeyTaken, "name", "put", "sale", "cup", 3)

    def test_parameters_by_name(self):
        store = shop()
        store.take(number=0, table="item")
        self.assertEqual([number for number, _ in store.rows(table="item")], [1, 2])


class Reading(Case):
    def test_rows_ascend(self):
        store = shop()
        self.assertEqual(store.rows("item"), ((0, ("cup", 4)), (1, ("hat", None)), (2, ("pen", "dear"))))
        store.take("item", 1)
        store.put("item", "a", -3)
        self.assertEqual(store.rows("item"), ((0, ("cup", 4)), (2, ("pen", "dear")), (3, ("a", -3))))

    def test_entries_of_all_values(self):
        for step in (1, 5, 7, 11):
            store = single(indexes=("x",))
            put = [VALUES[k * step % len(VALUES)] for k in range(len(VALUES))]
            numbers = {value: store.put("t", value) for value in put}
            self.assertEqual(store.entries("t", "x"), tuple((value, numbers[value]) for value in VALUES))

    def test_entries_with_equal_values(self):
        store = single(indexes=("x",))
        for value in ("b", None, 2, "b", 2, None, "a", 1, 2, None, -1):
            store.put("t", value)
        store.take("t", 4)
        expected = ((None, 1), (None, 5), (None, 9), (-1, 10), (1, 7), (2, 2), (2, 8), ("a", 6), ("b", 0), ("b", 3))
        self.assertEqual(store.entries("t", "x"), expected)

    def test_entries_of_another_column_than_the_first(self):
        store = Store()
        store.make("t", (("b", KINDS), ("a", KINDS)), indexes=("a", "b"))
        for row in ((1, "z"), (2, None), (0, 7)):
            store.put("t", *row)
        self.assertEqual(store.entries("t", "a"), ((None, 1), (7, 2), ("z", 0)))
        self.assertEqual(store.entries("t", "b"), ((0, 2), (1, 0), (2, 1)))

    def test_facts(self):
        store = shop()
        self.assertEqual(store.facts("item", "price"), Facts(4, None, "dear"))
        self.assertEqual(store.facts("item", "name"), Facts("a", "b", "c"))
        self.assertEqual(store.facts("sale", "count"), Facts(9, 2))
        self.assertEqual(Store.of(SCHEMA).facts("sale", "count"), Facts())

    def test_facts_told_earlier_stay(self):
        store = shop()
        facts, rows, entries = store.facts("item", "price"), store.rows("item"), store.entries("item", "price")
        store.put("item", "cup", 99)
        store.take("item", 1)
        self.assertEqual(facts.text, "1 nothing, 1 numbers from 4 to 4, 1 words")
        self.assertEqual(store.facts("item", "price").text, "0 nothing, 2 numbers from 4 to 99, 1 words")
        self.assertEqual((rows, entries), (shop().rows("item"), shop().entries("item", "price")))

    def test_facts_that_are_changed_change_no_store(self):
        store = shop()
        store.facts("item", "price").numbers = 50
        self.assertEqual(store.facts("item", "price").numbers, 1)

    def test_tables_not_there(self):
        for thing in tables_not_there():
            self.refused(shop(), NoTable, thing, "rows", thing)
            for method in ("entries", "facts"):
                self.refused(shop(), NoTable, thing, method, thing, "price")
                self.refused(shop(), NoTable, thing, method, thing, [thing])

    def test_columns_not_there(self):
        for thing in anything() + ["Price", "item", ("price",), ["price"], {"price": 1}, Facts(1), shop()]:
            for method in ("entries", "facts"):
                self.refused(shop(), NoColumn, thing, method, "item", thing)
        self.refused(shop(), NoColumn, "count", "facts", "item", "count")
        self.refused(shop(), NoColumn, "count", "entries", "item", "count")

    def test_columns_without_an_index(self):
        self.refused(shop(), NoColumn, "name", "entries", "item", "name")
        for column in ("name", "count"):
            self.refused(shop(), NoColumn, column, "entries", "sale", column)

    def test_parameters_by_name(self):
        store = shop()
        self.assertEqual(store.entries(column="price", table="item"), store.entries("item", "price"))
        self.assertEqual(store.facts(column="price", table="item"), store.facts("item", "price"))

    def test_the_examples(self):
        store = shop()
        self.assertEqual(store.facts("item", "price").text, "1 nothing, 1 numbers from 4 to 4, 1 words")
        self.assertFalse(5 in store.facts("item", "price"))
        self.assertEqual(store.entries("item", "price"), ((None, 1), (4, 0), ("dear", 2)))


class NamedFacts(unittest.TestCase):
    def test_on_real_stores(self):
        store = shop()
        for kind, holds in (("nothing", False), ("number", False), ("word", False)):
            self.assertIs(fact_holds(store, ("no", "item", "price", kind)), holds)
        store.take("item", 1)
        self.assertIs(fact_holds(store, ("no", "item", "price", "nothing")), True)
        for low, high, holds in ((4, 4, True), (5, 9, False), (0, 3, False), (-R, R, True)):
            self.assertIs(fact_holds(store, ("within", "item", "price", low, high)), holds)
        store.put("item", "a", 8)
        self.assertIs(fact_holds(store, ("within", "item", "price", 4, 7)), False)
        self.assertIs(fact_holds(store, ("within", "item", "price", 4, 8)), True)

    def test_all_are_so_without_rows(self):
        taken = shop()
        for table, numbers in (("item", range(3)), ("sale", range(2))):
            for number in numbers:
                taken.take(table, number)
        for store in (Store.of(SCHEMA), taken):
            for table, column in (("item", "name"), ("item", "price"), ("sale", "name"), ("sale", "count")):
                for kind in KINDS:
                    self.assertIs(fact_holds(store, ("no", table, column, kind)), True)
                for low, high in ((0, 0), (-R, R), (R, R)):
                    self.assertIs(fact_holds(store, ("within", table, column, low, high)), True)


class Copies(unittest.TestCase):
    def test_each_side_changed(self):
        store = shop()
        copy = store.copy()
        second = copy.copy()
        store.put("item", "a", 1)
        self.assertEqual((copy, second), (shop(), shop()))
        copy.take("sale", 0)
        self.assertEqual((second.rows("sale"), len(store.rows("sale"))), (shop().rows("sale"), 2))
        second.make("more", (("x", ("word",)),))
        self.assertEqual((len(store.schema), len(copy.schema), len(second.schema)), (2, 2, 3))
        self.assertEqual((store.put("item", "b", 1), copy.put("item", "b", 1), second.put("item", "b", 1)), (4, 3, 3))
        self.assertFalse(store == copy or copy == second or store == second)

    def test_copies_of_empty_stores(self):
        store = Store()
        copy = store.copy()
        self.assertEqual(store, copy)
        store.make("t", (("x", ("word",)),))
        self.assertEqual(copy, Store())
        copy.make("t", (("x", ("word",)),))
        self.assertEqual(store, copy)

    def test_keys_and_numbers_go_on(self):
        store = shop()
        store.take("item", 2)
        copy = store.copy()
        self.assertEqual(copy.put("item", "z", 1), 3)
        with self.assertRaises(KeyTaken):
            copy.put("sale", "pen", 1)
        self.assertEqual((copy.entries("item", "price"), len(store.rows("item"))), (((None, 1), (1, 3), (4, 0)), 2))


class Equality(unittest.TestCase):
    def test_the_same_rows_that_came_about_otherwise(self):
        store = shop()
        store.put("sale", "hat", 3)
        store.take("item", 0)
        other = Store.of(tuple(store.schema))
        for name, count in (("cup", 2), ("pen", 9), ("hat", 3)):
            other.put("sale", name, count)
        other.put("item", "other", 4)
        other.take("item", 0)
        other.put("item", "hat", None)
        other.put("item", "pen", "dear")
        self.assertTrue(store == other and not store != other)

    def test_next_numbers(self):
        store, other = shop(), shop()
        number = other.put("item", "a", 1)
        self.assertNotEqual(store, other)
        other.take("item", number)
        self.assertEqual(store.rows("item"), other.rows("item"))
        self.assertNotEqual(store, other)
        store.take("item", store.put("item", "z", None))
        self.assertEqual(store, other)

    def test_schemas(self):
        x = (("x", ("word",)),)
        made = [Store() for _ in range(6)]
        made[0].make("t", x)
        made[1].make("u", x)
        made[2].make("t", x, keys=("x",))
        made[3].make("t", x, indexes=("x",))
        made[4].make("t", (("x", ("number", "word")),))
        for at, one in enumerate(made):
            for later, other in enumerate(made):
                self.assertIs(one == other, at == later)
                self.assertIs(one != other, at != later)

    def test_rows(self):
        for row in (("cup", 4), ("cup", 5), ("cup", None), ("cup", "a")):
            store, other = Store.of(SCHEMA), Store.of(SCHEMA)
            store.put("item", *row)
            self.assertNotEqual(store, other)
            other.put("item", "cup", 5)
            self.assertIs(store == other, row == ("cup", 5))

    def test_numbers_of_rows(self):
        store, other = Store.of(SCHEMA), Store.of(SCHEMA)
        for one in (store, other):
            one.put("item", "cup", 4)
            one.put("item", "cup", 4)
        store.take("item", 0)
        other.take("item", 1)
        self.assertNotEqual(store, other)

    def test_values_of_other_classes(self):
        for thing in anything() + [Facts(), shop().schema, Store]:
            for store in (Store(), shop()):
                self.assertIs(store == thing, False)
                self.assertIs(store != thing, True)
                self.assertIs(thing == store, False)

    def test_nothing_changes(self):
        store, other = shop(), shop()
        self.assertTrue(store == other and store == other and other == store and store == store)
