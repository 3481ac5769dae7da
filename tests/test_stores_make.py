"""[5] and `make`, `schema` and `Store.of` of failsalike.stores."""

import copy
import unittest
from itertools import permutations, product

from failsalike.errors import BadTable, NameTaken
from failsalike.facts import Facts
from failsalike.stores import Store
from tests.samples import VALUES, anything, nested, no_words
from tests.shop import shop
from tests.standin import SCHEMA

KINDS = ("nothing", "number", "word")
SUBSETS = [tuple(kind for kind, is_in in zip(KINDS, bits) if is_in) for bits in product((1, 0), repeat=3)][:-1]
XY = (("x", ("number",)), ("y", ("word",)))
FOUR = tuple((name, ("word",)) for name in ("d", "a", "c", "b"))


class Case(unittest.TestCase):
    def refused(self, store, part, name, columns, **more):
        """What is refused changes nothing, neither the store nor what was passed."""
        before, passed = store.copy(), copy.deepcopy((name, columns, more))
        with self.assertRaises(BadTable) as caught:
            store.make(name, columns, **more)
        self.assertEqual(caught.exception.part, part, (name, columns, more))
        self.assertEqual((store, store.schema), (before, before.schema))
        self.assertEqual((name, columns, more), passed)


class RightTables(Case):
    def test_each_tuple_of_kinds(self):
        self.assertEqual(len(SUBSETS), 7)
        for kinds in SUBSETS:
            store = Store()
            self.assertIsNone(store.make("t", (("x", kinds),)))
            self.assertEqual(store.schema, (("t", (("x", kinds),), (), ()),))

    def test_one_to_four_columns_in_any_order(self):
        for many in range(1, 5):
            for columns in permutations(FOUR, many):
                store = Store()
                store.make("t", columns)
                self.assertEqual(store.schema, (("t", columns, (), ()),))

    def test_none_to_four_keys_and_indexes(self):
        names = ("a", "b", "c", "d")
        some = [tuple(name for name, is_in in zip(names, bits) if is_in) for bits in product((0, 1), repeat=4)]
        for keys, indexes in product(some, some):
            store = Store()
            store.make("t", FOUR, keys=keys, indexes=indexes)
            self.assertEqual(store.schema, (("t", FOUR, keys, indexes),))

    def test_names(self):
        for name in ("a", "z", "abcdefgh", "zzzzzzzz", "keys", "table", "nothing"):
            store = Store()
            store.make(name, ((name, ("word",)),), keys=(name,), indexes=(name,))
            self.assertEqual(store.schema, ((name, ((name, ("word",)),), (name,), (name,)),))

    def test_the_schema_ascends(self):
        names = ("b", "ab", "a", "c")
        for order in permutations(names):
            store = Store()
            for name in order:
                store.make(name, XY)
            self.assertEqual(store.schema, tuple((name, XY, (), ()) for name in sorted(names)))

    def test_many_tables(self):
        store = Store()
        for letter in "hgfedcba":
            store.make(letter, XY)
        self.assertEqual([table[0] for table in store.schema], list("abcdefgh"))

    def test_a_new_store_has_no_tables(self):
        self.assertEqual(Store().schema, ())

    def test_keys_and_indexes_left_out(self):
        one, other = Store(), Store()
        one.make("t", XY)
        other.make(name="t", columns=XY, indexes=(), keys=())
        self.assertEqual(one, other)

    def test_keys_and_indexes_by_name_only(self):
        with self.assertRaises(TypeError):
            Store().make("t", XY, ())

    def test_the_schema_cannot_be_set(self):
        with self.assertRaises(AttributeError):
            Store().schema = ()


class NamesTaken(Case):
    def test_ahead_of_wrong_parts(self):
        store = shop()
        before = store.copy()
        for columns, more in ((XY, {}), ((), {}), (3, {"keys": 5}), (XY, {"keys": ("z",)}), (XY, {"indexes": []})):
            for name in ("item", "sale"):
                with self.assertRaises(NameTaken) as caught:
                    store.make(name, columns, **more)
                self.assertEqual(caught.exception.name, name)
                self.assertEqual(store, before)

    def test_a_name_that_is_free_again_elsewhere(self):
        store = shop()
        store.make("items", XY)
        self.assertEqual([table[0] for table in store.schema], ["item", "items", "sale"])


class WrongParts(Case):
    def test_names(self):
        for name in no_words() + [None, 0, 1, -5, 10**13]:
            self.refused(shop(), "name", name, XY)
            self.refused(Store(), "name", name, XY)

    def test_columns_that_are_none(self):
        for thing in anything():
            self.refused(shop(), "columns", "t", thing)

    def test_numbers_of_columns(self):
        five = FOUR + (("e", ("word",)),)
        for columns in ((), five, five + (("f", ("word",)),), tuple((a, ("word",)) for a in "abcdefghijklmnop")):
            self.refused(Store(), "columns", "t", columns)

    def test_doubled_columns(self):
        x = ("x", ("number",))
        for columns in ((x, x), (x, ("y", ("word",)), x), (x, ("x", ("word",))), (*FOUR[:3], FOUR[0])):
            self.refused(Store(), "columns", "t", columns)

    def test_no_pairs(self):
        for pair in (("x",), ("x", ("word",), ()), (), "x", "xy", ["x", ("word",)], (("word",), "x"), {"x": ("word",)}):
            self.refused(Store(), "columns", "t", (pair,))
            self.refused(Store(), "columns", "t", (FOUR[0], pair))

    def test_lists(self):
        self.refused(Store(), "columns", "t", [("x", ("word",))])
        self.refused(Store(), "columns", "t", (["x", ("word",)],))
        self.refused(Store(), "columns", "t", (("x", ["word"]),))
        self.refused(Store(), "columns", "t", {"x": ("word",)})

    def test_kinds(self):
        wrong = [(), ("words",), ("word", "word"), ("word", "number"), ("number", "nothing"), ("word", "nothing")]
        wrong += ["word", "", ("word", None), ("word", 1), (True,), (("word",),), KINDS + ("word",), ("nothing", "word", "x")]
        wrong += [("Word",), ("number", "nothing", "word"), ("nothing", "number", "number"), ("a",), ({"word": 1},)]
        for kinds in wrong + anything():
            self.refused(Store(), "columns", "t", (("x", kinds),))
            self.refused(Store(), "columns", "t", (FOUR[0], ("x", kinds)))

    def test_names_of_columns(self):
        for name in no_words() + [None, 3]:
            self.refused(Store(), "columns", "t", ((name, ("word",)),))
            self.refused(Store(), "columns", "t", (FOUR[0], (name, ("word",))))

    def test_keys_and_indexes(self):
        wrong = [("b", "a"), ("a", "a"), ("a", "b", "b"), ("d", "c"), ("e",), ("a", "e"), ("t",), ["a"], "a", "ab", ("A",)]
        wrong += [(None,), (1,), (True,), (("a",),), (["a"],), ("a", ["b"]), ("a", None), {"a": 1}, {}, [], "", nested(20)]
        for thing in wrong:
            self.refused(shop(), "keys", "t", FOUR, keys=thing)
            self.refused(shop(), "indexes", "t", FOUR, indexes=thing)
        for thing in [thing for thing in anything() if thing != ()]:
            self.refused(shop(), "keys", "t", XY, keys=thing)
            self.refused(shop(), "indexes", "t", XY, indexes=thing)

    def test_own_objects(self):
        for thing in (Store(), shop(), Facts(1), Facts()):
            self.refused(shop(), "name", thing, XY)
            self.refused(shop(), "columns", "t", thing)
            self.refused(shop(), "columns", "t", (thing,))
            self.refused(shop(), "columns", "t", ((thing, ("word",)),))
            self.refused(shop(), "columns", "t", (("x", thing),))
            self.refused(shop(), "columns", "t", (("x", (thing,)),))
            self.refused(shop(), "keys", "t", XY, keys=thing)
            self.refused(shop(), "indexes", "t", XY, indexes=(thing,))
        self.refused(shop(), "columns", "t", shop().schema)

    def test_the_first_of_two_is_told(self):
        wrong = {"name": "T", "columns": (), "keys": ("z",), "indexes": ["x"]}
        right = {"name": "t", "columns": XY, "keys": ("x",), "indexes": ("y",)}
        parts = list(wrong)
        for at, first in enumerate(parts):
            self.refused(Store(), first, **{**right, first: wrong[first]})
            for second in parts[at + 1 :]:
                self.refused(Store(), first, **{**right, first: wrong[first], second: wrong[second]})
        self.refused(Store(), "name", **wrong)

    def test_keys_beside_columns_that_are_wrong(self):
        for thing in VALUES:
            self.refused(Store(), "columns", "t", (("x", ()),), keys=("x",), indexes=thing)


class OfASchema(Case):
    def test_tables_without_rows(self):
        for schema in ((), SCHEMA, shop().schema, SCHEMA[:1], SCHEMA[1:]):
            store = Store.of(schema)
            self.assertEqual(store.schema, schema)
            self.assertEqual([store.rows(table[0]) for table in schema], [()] * len(schema))

    def test_beside_tables_made_one_by_one(self):
        schema = SCHEMA + (("total", FOUR, ("a", "d"), ("b",)),)
        for order in permutations(schema):
            store = Store()
            for name, columns, keys, indexes in order:
                store.make(name, columns, keys=keys, indexes=indexes)
            self.assertEqual(store, Store.of(schema))
            self.assertEqual(store.put("total", "a", "b", "c", "d"), 0)
            self.assertNotEqual(store, Store.of(schema))

    def test_called_off_an_object_and_by_name(self):
        self.assertEqual(shop().of(SCHEMA), Store.of(schema=SCHEMA))

    def test_each_store_by_itself(self):
        one, other = Store.of(SCHEMA), Store.of(SCHEMA)
        one.put("item", "cup", 3)
        one.make("more", XY)
        self.assertEqual((other.rows("item"), other.schema), ((), SCHEMA))
