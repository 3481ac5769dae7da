"""[4] and the interface of failsalike.values."""

import copy
import unittest

from failsalike.facts import Facts
from failsalike.values import RANGE, is_before, is_name, is_number, is_value, kind_of
from tests.samples import VALUES, R, anything, no_numbers, no_words

NAMES = ["a", "z", "m", "item", "abcdefgh", "zzzzzzzz", "where", "not", "none", "nothing", "number", "word"]


class Range(unittest.TestCase):
    def test_it_is_an_integer(self):
        self.assertEqual(RANGE, 1000000000000)
        self.assertIs(type(RANGE), int)


class Names(unittest.TestCase):
    def test_names(self):
        for length in range(1, 9):
            self.assertIs(is_name("abcdefgh"[:length]), True)
        for letter in "abcdefghijklmnopqrstuvwxyz":
            self.assertIs(is_name(letter), True)
            self.assertIs(is_name("q" + letter), True)
        for name in NAMES[:-3]:
            self.assertIs(is_name(name), True)

    def test_one_letter_too_many(self):
        self.assertIs(is_name("abcdefghi"), False)
        self.assertIs(is_name(""), False)

    def test_each_other_character(self):
        for code in range(0, 400):
            if not ord("a") <= code <= ord("z"):
                for text in (chr(code), "a" + chr(code), chr(code) + "a", "a" + chr(code) + "a"):
                    self.assertIs(is_name(text), False, repr(text))

    def test_no_names(self):
        for thing in no_words() + [None, 0, 1, -1, R, 10**40, Facts("a"), 0.5, b"a"]:
            self.assertIs(is_name(thing), False, repr(thing)[:80])


class Values(unittest.TestCase):
    def test_values(self):
        for value in list(VALUES) + NAMES:
            self.assertIs(is_value(value), True, value)

    def test_both_ends_of_the_range(self):
        for number in (R, -R, R - 1, 1 - R, 0):
            self.assertIs(is_value(number), True)
            self.assertIs(is_number(number), True)
        for number in (R + 1, -R - 1, 2 * R, 10**39, -(10**39)):
            self.assertIs(is_value(number), False)
            self.assertIs(is_number(number), False)

    def test_truths_are_no_integers(self):
        for truth in (True, False):
            self.assertIs(is_value(truth), False)
            self.assertIs(is_number(truth), False)

    def test_no_values(self):
        for thing in no_numbers() + [Facts(), Facts(1), 0.5, 1.0, b"a"]:
            self.assertIs(is_value(thing), False, repr(thing)[:80])
            self.assertIs(is_number(thing), False, repr(thing)[:80])

    def test_words_and_nothing_are_no_numbers(self):
        for thing in [None] + NAMES:
            self.assertIs(is_number(thing), False)


class Kinds(unittest.TestCase):
    def test_kinds(self):
        self.assertEqual(kind_of(None), "nothing")
        for number in (-R, -1, 0, 1, R):
            self.assertEqual(kind_of(number), "number")
        for word in NAMES:
            self.assertEqual(kind_of(word), "word")


class Order(unittest.TestCase):
    def test_all_pairs(self):
        for at, one in enumerate(VALUES):
            for other_at, other in enumerate(VALUES):
                self.assertIs(is_before(one, other), at < other_at, (one, other))

    def test_between_the_kinds(self):
        self.assertIs(is_before(None, -R), True)
        self.assertIs(is_before(-R, None), False)
        self.assertIs(is_before(R, "a"), True)
        self.assertIs(is_before("a", R), False)
        self.assertIs(is_before(None, "a"), True)
        self.assertIs(is_before("a", None), False)

    def test_words_ascend_as_words(self):
        for one, other in (("a", "b"), ("a", "aa"), ("ab", "b"), ("z", "za"), ("nothing", "number")):
            self.assertIs(is_before(one, other), True)
            self.assertIs(is_before(other, one), False)

    def test_numbers_ascend_as_numbers(self):
        for one, other in ((9, 10), (-10, -9), (-1, 1), (2, 10**11)):
            self.assertIs(is_before(one, other), True)
            self.assertIs(is_before(other, one), False)


class Calls(unittest.TestCase):
    def test_the_example(self):
        found = [is_value(True), is_value("cup"), is_value(10**12 + 1), kind_of(None)]
        found += [is_before(None, -3), is_before(9, "a")]
        self.assertEqual(found, [False, True, False, "nothing", True, True])

    def test_parameters_by_name(self):
        self.assertIs(is_name(thing="cup"), True)
        self.assertIs(is_value(thing=3), True)
        self.assertEqual(kind_of(value="cup"), "word")
        self.assertIs(is_before(one=1, other=2), True)
        self.assertIs(is_before(other=1, one=2), False)

    def test_nothing_is_changed_and_answers_stay(self):
        things = anything()
        before = copy.deepcopy(things)
        first = [(is_name(thing), is_value(thing), is_number(thing)) for thing in things]
        self.assertEqual(things, before)
        self.assertEqual([(is_name(thing), is_value(thing), is_number(thing)) for thing in things], first)
