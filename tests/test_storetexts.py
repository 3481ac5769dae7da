"""[27] and the functions of failsalike.storetexts."""

import random
import unittest

from failsalike.errors import InvalidText, KeyTaken
from failsalike.facts import Facts
from failsalike.stores import Store
from failsalike.storetexts import read_store, show_store
from tests import chance
from tests.samples import R, VALUES, anything
from tests.shop import shop

KINDS = ("nothing", "number", "word")
SHOP = """table item name:word price:nothing|number|word index price
row 0 "cup" 4
row 1 "hat" nothing
row 2 "pen" "dear"
next 3
table sale name:word count:number key name
row 0 "cup" 2
row 1 "pen" 9
next 2"""
FULL = """table a a:word b:nothing|number c:number|word d:nothing|word key a key b index b index d
row 3 "a" nothing 5 "z"
row 7 "b" -1000000000000 "row" nothing
row 1000000000000000 "c" 1000000000000 0 "nothing"
next 1000000000000000000000
table key key:nothing key key index key
row 0 nothing
next 1
table next index:number
next 5
table row row:word
next 0"""


class Case(unittest.TestCase):
    def both(self, store, text):
        before = store.copy()
        self.assertEqual(show_store(store), text)
        got = read_store(text)
        self.assertEqual((got, got.__class__), (before, Store))
        self.assertEqual(show_store(got), text)
        self.assertEqual(store, before)
        for name, columns, _, _ in store.schema:
            self.assertEqual(got.rows(name), store.rows(name))
            for column, _ in columns:
                self.assertEqual(got.facts(name, column), store.facts(name, column))

    def invalid(self, *things):
        for thing in things:
            with self.assertRaises(InvalidText, msg=repr(thing)[:200]):
                read_store(thing)


class Right(Case):
    def test_the_shop(self):
        self.both(shop(), SHOP)

    def test_no_tables(self):
        self.both(Store(), "")

    def test_a_full_store(self):
        store = read_store(FULL)
        self.assertEqual(show_store(store), FULL)
        self.assertEqual([table[0] for table in store.schema], ["a", "key", "next", "row"])
        self.assertEqual(store.schema[0][2:], (("a", "b"), ("b", "d")))
        self.assertEqual(store.rows("a")[1], (7, ("b", -R, "row", None)))
        self.assertEqual(store.put("a", "d", 1, 1, None), 10**21)
        self.assertEqual(store.put("a", "e", 2, 1, None), 10**21 + 1)
        self.assertEqual((store.put("next", 1), store.put("row", "a")), (5, 0))

    def test_values(self):
        store = Store()
        store.make("t", (("x", KINDS),))
        for value in VALUES + ("row", "next", "table", "key", "index", "nothing"):
            store.put("t", value)
        shown = ["nothing" if v is None else f'"{v}"' if isinstance(v, str) else str(v) for _, (v,) in store.rows("t")]
        lines = [f"row {at} {value}" for at, value in enumerate(shown)]
        self.both(store, "\n".join(["table t x:nothing|number|word", *lines, f"next {len(lines)}"]))

    def test_stores_by_chance(self):
        rng = random.Random(27)
        for many in range(7):
            for _ in range(15):
                schema = chance.some_schema(rng, ("a", "b", "row", "table", "v", "w")[:many])
                store = chance.some_store(rng, schema, 40 if many == 2 else 5)
                self.both(store, show_store(store))

    def test_the_same_numbers_and_keys_go_on(self):
        store = shop()
        store.put("sale", "hat", 1)
        store.take("sale", 2)
        store.take("item", 0)
        got = read_store(show_store(store))
        self.assertEqual((got.put("sale", "hat", 1), got.put("item", "cup", 4)), (3, 3))
        for name in ("cup", "pen", "hat"):
            with self.assertRaises(KeyTaken):
                got.put("sale", name, 1)
        self.assertEqual(got.entries("item", "price"), ((None, 1), (4, 3), ("dear", 2)))

    def test_a_table_whose_rows_were_all_taken_out(self):
        store = shop()
        for number in range(3):
            store.take("item", number)
        self.both(store, "\n".join([SHOP.split("\n")[0], *SHOP.split("\n")[4:]]))

    def test_two_stores_read_from_one_text_share_nothing(self):
        one, other = read_store(SHOP), read_store(SHOP)
        one.put("item", "a", 1)
        one.take("sale", 0)
        one.make("more", (("x", ("word",)),))
        self.assertEqual(other, shop())

    def test_numbers_without_a_limit(self):
        for number in (10**12 + 1, 10**39, 10**200):
            text = f"table t x:word\nrow {number} \"a\"\nnext {number + 1}"
            store = read_store(text)
            self.assertEqual(store.put("t", "b"), number + 1)
            self.assertEqual(show_store(store).split("\n")[-1], f"next {number + 2}")

    def test_by_name(self):
        self.assertEqual(read_store(thing=show_store(store=shop())), shop())


class Wrong(Case):
    def test_lines_left_out_doubled_and_exchanged(self):
        for text in (SHOP, FULL):
            lines = text.split("\n")
            for at in range(len(lines)):
                left_out = "\n".join(lines[:at] + lines[at + 1 :])
                if lines[at].startswith("row"):
                    self.assertEqual(show_store(read_store(left_out)), left_out)
                else:
                    self.invalid(left_out)
                self.invalid("\n".join(lines[: at + 1] + lines[at:]))
                for later in range(at + 1, len(lines)):
                    moved = list(lines)
                    moved[at], moved[later] = moved[later], moved[at]
                    if lines[at][:3] == lines[later][:3] != "tab":
                        # What is said of two tables may happen to go with the other one.
                        self.settle(text, "\n".join(moved))
                    else:
                        self.invalid("\n".join(moved))

    def test_words_left_out_doubled_and_exchanged(self):
        for text in (SHOP, FULL):
            lines = text.split("\n")
            for at, line in enumerate(lines):
                words = line.split(" ")
                for word in range(len(words)):
                    near = [words[:word] + words[word + 1 :], words[: word + 1] + words[word:]]
                    near += [words[:word] + words[word : word + 2][::-1] + words[word + 2 :]]
                    for other in near:
                        self.settle(text, "\n".join(lines[:at] + [" ".join(other)] + lines[at + 1 :]))

    def settle(self, text, other):
        """Another text is refused, or it is the text of another store."""
        try:
            store = read_store(other)
        except InvalidText:
            return
        self.assertEqual(show_store(store), other)
        self.assertEqual(store == read_store(text), text == other)

    def test_signs_left_out_doubled_and_replaced(self):
        for text in (SHOP, FULL):
            for at in range(len(text)):
                near = [text[:at], text[:at] + text[at + 1 :], text[:at] + text[at] + text[at:]]
                near += [text[:at] + sign + text[at + 1 :] for sign in ' :|"-09a\n~']
                for other in near:
                    self.settle(text, other)

    def test_ends_and_blanks(self):
        for text in (SHOP, FULL):
            self.invalid(text + "\n", "\n" + text, text + " ", " " + text, text + "\nnext 9", text.replace(" ", "  "))
            self.invalid(text.replace("\n", "\n\n"), text.replace("\n", " \n"), text.replace("\n", "\n "), text.upper())
        self.invalid("\n", " ", "\n\n", "a", "next 0", "row 0", "row 0 1\nnext 1", "next 0\ntable t x:word\nnext 0")
        self.invalid("table", "table ", "table t", "table t\nnext 0", "table t x:word", "table t x:word\nnext", "next")
        self.invalid("table t x:word\nnext ", "table t x:word\nrow\nnext 0", "table t x:word\nlast 0")

    def test_numbers(self):
        text = "table t x:number\nrow {} {}\nnext {}"
        self.assertEqual(show_store(read_store(text.format(0, 5, 1))), text.format(0, 5, 1))
        self.assertEqual(show_store(read_store(text.format(0, -5, 1))), text.format(0, -5, 1))
        for number in ("00", "01", "+1", "-1", "-0", "1.0", "0x1", "1_0", "", "-", "a", '"a"', "nothing", "1e1"):
            self.invalid(text.format(number, 5, 99), text.format(0, 5, number))
            if number != "-1":
                self.invalid(text.format(0, number, 1))
        for number in (R + 1, -R - 1, 10**30, "9" * 1900, "-" + "9" * 1900):
            self.invalid(text.format(0, number, 1))

    def test_next_numbers_that_are_too_small(self):
        for row, last in ((0, 0), (5, 5), (5, 0), (5, 4), (10**20, 10**20), (10**20, 1)):
            self.invalid(f"table t x:word\nrow {row} \"a\"\nnext {last}")
            self.assertEqual(read_store(f"table t x:word\nrow {row} \"a\"\nnext {row + 1}").put("t", "b"), row + 1)

    def test_equal_values_in_keys(self):
        for value in ('"a"', "nothing", "5"):
            rows = f"row 0 {value}\nrow 1 {value}\nnext 2"
            self.invalid(f"table t x:nothing|number|word key x\n{rows}")
            self.assertEqual(len(read_store(f"table t x:nothing|number|word\n{rows}").rows("t")), 2)

    def test_values_of_a_kind_that_a_column_does_not_have(self):
        values = {"nothing": "nothing", "number": "5", "word": '"five"'}
        for kind in KINDS:
            for other, value in values.items():
                text = f"table t x:{kind}\nrow 0 {value}\nnext 1"
                if kind == other:
                    self.assertEqual(show_store(read_store(text)), text)
                else:
                    self.invalid(text)

    def test_values_that_are_none(self):
        for value in ('""', '"', '"a', 'a"', "a", '"A"', '"abcdefghi"', "None", "True", "'a'", '"a"b"', '"a""', "()"):
            self.invalid(f"table t x:nothing|number|word\nrow 0 {value}\nnext 1")

    def test_too_many_and_too_few_values(self):
        for values in ("", " ", ' "a"', ' "a" "b" "c"', ' "a"  "b"', ' "a" "b" '):
            self.invalid(f"table t x:word y:word\nrow 0{values}\nnext 1")

    def test_not_ascending(self):
        one, other = "table a x:word\nnext 0", "table b x:word\nnext 0"
        self.assertEqual(len(read_store(f"{one}\n{other}").schema), 2)
        self.invalid(f"{other}\n{one}", f"{one}\n{one}", f"{one}\n{other}\n{one}")
        self.invalid('table a x:word\nrow 1 "a"\nrow 0 "a"\nnext 2', 'table a x:word\nrow 1 "a"\nrow 1 "a"\nnext 2')
        self.invalid('table a x:word\nnext 2\nrow 2 "a"', 'table a x:word\nnext 2\nnext 3', "table a x:word\nnext 2\nnext 2")

    def test_tables_that_are_not_right(self):
        for line in ("table T x:word", "table t X:word", "table t x:word x:word", "table t x:word|number", "table t x:"):
            self.invalid(f"{line}\nnext 0")
        for line in ("x", "x:words", "x:word|word", "x:word|", ":word", "x:word:", "x:word key y", "x:word key", "x:word index"):
            self.invalid(f"table t {line}\nnext 0")
        for line in ("x:word key x key x", "x:word y:word key y key x", "x:word index x key x", "key x x:word", "x:word x"):
            self.invalid(f"table t {line}\nnext 0")
        for line in ("a:word b:word c:word d:word e:word", "x:word keys x", "x:word key x:word", "x:word  key x", "x|word"):
            self.invalid(f"table t {line}\nnext 0")
        for line in ("x:word y:word index y index x", "x:word index x index x", "x:word key x y:word", "table x:word"):
            self.invalid(f"table t {line}\nnext 0")

    def test_any_value(self):
        self.invalid(*[thing for thing in anything() if thing != ""])
        self.invalid(Facts(1), shop(), shop().schema, [SHOP], (SHOP,), {SHOP: 1}, SHOP.split("\n"))
