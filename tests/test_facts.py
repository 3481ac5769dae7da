"""[6] and the class of failsalike.facts."""

import unittest
from itertools import product

from failsalike.facts import Facts
from tests.samples import R, VALUES, anything

# Values, the five attributes of their facts, and the text.
CASES = (
    ((), (0, 0, 0, None, None), "0 nothing, 0 numbers, 0 words"),
    ((None,), (1, 0, 0, None, None), "1 nothing, 0 numbers, 0 words"),
    ((None, None), (2, 0, 0, None, None), "2 nothing, 0 numbers, 0 words"),
    ((0,), (0, 1, 0, 0, 0), "0 nothing, 1 numbers from 0 to 0, 0 words"),
    ((4, 4, 4), (0, 3, 0, 4, 4), "0 nothing, 3 numbers from 4 to 4, 0 words"),
    ((7, -3, 5), (0, 3, 0, -3, 7), "0 nothing, 3 numbers from -3 to 7, 0 words"),
    ((10, 9), (0, 2, 0, 9, 10), "0 nothing, 2 numbers from 9 to 10, 0 words"),
    (("cup",), (0, 0, 1, None, None), "0 nothing, 0 numbers, 1 words"),
    (("a", "a", "zzzzzzzz"), (0, 0, 3, None, None), "0 nothing, 0 numbers, 3 words"),
    ((None, "a"), (1, 0, 1, None, None), "1 nothing, 0 numbers, 1 words"),
    ((3, None, "a", 7), (1, 2, 1, 3, 7), "1 nothing, 2 numbers from 3 to 7, 1 words"),
    (("b", 1, None, "a", None), (2, 1, 2, 1, 1), "2 nothing, 1 numbers from 1 to 1, 2 words"),
    ((R, -R), (0, 2, 0, -R, R), "0 nothing, 2 numbers from -1000000000000 to 1000000000000, 0 words"),
    ((-R,), (0, 1, 0, -R, -R), "0 nothing, 1 numbers from -1000000000000 to -1000000000000, 0 words"),
)


def five(facts):
    """What makes facts equal."""
    return (facts.nothings, facts.numbers, facts.words, facts.least, facts.greatest)


class Attributes(unittest.TestCase):
    def test_attributes_and_text(self):
        for values, attributes, text in CASES:
            facts = Facts(*values)
            self.assertEqual(five(facts), attributes)
            self.assertEqual(facts.text, text)
            self.assertEqual(five(facts), attributes)

    def test_the_order_of_the_values_does_not_matter(self):
        for values, attributes, text in CASES:
            facts = Facts(*reversed(values))
            self.assertEqual((five(facts), facts.text), (attributes, text))

    def test_great_counts(self):
        facts = Facts(*[None] * 11, *range(-5, 100), *["a"] * 40)
        self.assertEqual(facts.text, "11 nothing, 105 numbers from -5 to 99, 40 words")

    def test_counts_are_integers(self):
        facts = Facts(1, None)
        self.assertEqual([type(part) for part in five(facts)], [int] * 5)


class Sums(unittest.TestCase):
    def test_two(self):
        for (one, _, _), (other, _, _) in product(CASES, CASES):
            whole = Facts(*one, *other)
            both = Facts(*one) + Facts(*other)
            self.assertIsInstance(both, Facts)
            self.assertEqual((five(both), both.text), (five(whole), whole.text))
            self.assertTrue(both == whole)

    def test_three_in_either_grouping(self):
        for (one, _, _), (other, _, _), (third, _, _) in product(CASES, CASES, CASES):
            whole = Facts(*one, *other, *third)
            left = (Facts(*one) + Facts(*other)) + Facts(*third)
            right = Facts(*one) + (Facts(*other) + Facts(*third))
            self.assertEqual((five(left), left.text), (five(whole), whole.text))
            self.assertEqual((five(right), right.text), (five(whole), whole.text))

    def test_the_summands_stay(self):
        for (one, attributes, text), (other, other_attributes, other_text) in product(CASES, CASES):
            left, right = Facts(*one), Facts(*other)
            for _ in range(2):
                both = left + right
                self.assertEqual((five(left), left.text), (attributes, text))
                self.assertEqual((five(right), right.text), (other_attributes, other_text))
            self.assertIsNot(both, left)
            self.assertIsNot(both, right)

    def test_with_itself(self):
        facts = Facts(3, None)
        self.assertEqual((facts + facts).text, "2 nothing, 2 numbers from 3 to 3, 0 words")
        self.assertEqual(facts.text, "1 nothing, 1 numbers from 3 to 3, 0 words")

    def test_added_in_place_it_is_a_new_object(self):
        facts = kept = Facts(3)
        facts += Facts(5)
        self.assertEqual([facts == Facts(3, 5), kept == Facts(3)], [True, True])

    def test_a_sum_knows_its_values(self):
        both = Facts("a") + Facts(3) + Facts(9)
        self.assertEqual([value in both for value in (None, 2, 3, 5, 9, 10, "b")],
                         [False, False, True, True, True, False, True])

    def test_with_no_facts(self):
        for thing in (3, None, "a", (1,)):
            with self.assertRaises(TypeError):
                Facts(3) + thing


class Contains(unittest.TestCase):
    def test_each_kind(self):
        for values, (nothings, numbers, words, least, greatest), _ in CASES:
            facts = Facts(*values)
            for value in VALUES:
                if value is None:
                    expected = nothings > 0
                elif isinstance(value, str):
                    expected = words > 0
                else:
                    expected = numbers > 0 and least <= value <= greatest
                self.assertIs(value in facts, expected, (values, value))
                self.assertIs(value not in facts, not expected)

    def test_numbers_at_between_and_beyond_the_ends(self):
        facts = Facts(3, 7, 4)
        for number, expected in ((2, False), (3, True), (5, True), (7, True), (8, False), (-5, False), (R, False)):
            self.assertIs(number in facts, expected, number)

    def test_one_number(self):
        self.assertEqual([number in Facts(4) for number in (3, 4, 5)], [False, True, False])

    def test_zero_is_a_number_and_not_nothing(self):
        self.assertEqual([0 in Facts(None), None in Facts(0), 0 in Facts(0)], [False, False, True])

    def test_without_numbers(self):
        for facts in (Facts(), Facts(None), Facts("a")):
            for number in (-R, -1, 0, 1, R):
                self.assertIs(number in facts, False)

    def test_other_words(self):
        self.assertEqual(["b" in Facts("a"), "a" in Facts(None, 3)], [True, False])


class Equality(unittest.TestCase):
    def test_equal_if_the_five_are(self):
        for (one, attributes, _), (other, other_attributes, _) in product(CASES, CASES):
            expected = attributes == other_attributes
            self.assertIs(Facts(*one) == Facts(*other), expected, (one, other))
            self.assertIs(Facts(*one) != Facts(*other), not expected, (one, other))

    def test_each_of_the_five_counts(self):
        base = Facts(None, 3, 5, 7, "a")
        different = ((3, 5, 7, "a"), (None, 3, 7, "a"), (None, 3, 5, 7), (None, 4, 5, 7, "a"), (None, 3, 5, 6, "a"))
        for values in different + ((None, None, 3, 5, 7, "a"), (None, 3, 5, 7, "a", "b"), (None, 3, 4, 5, 7, "a")):
            self.assertIs(base == Facts(*values), False, values)
            self.assertIs(Facts(*values) == base, False, values)

    def test_other_values_with_the_same_facts(self):
        self.assertIs(Facts(3, 4, 7, "a") == Facts(3, 6, 7, "b"), True)
        self.assertIs(Facts(1, None, "a") == Facts("a", 1, None), True)

    def test_no_value_of_another_class(self):
        class Same:
            """Has what facts have."""

            nothings, numbers, words, least, greatest, text = 0, 1, 0, 3, 3, Facts(3).text

            def __eq__(self, other):
                return True

        facts = Facts(3)
        for thing in anything() + [Same(), Facts, facts.text, five(facts), 0.5]:
            self.assertIs(facts == thing, False)
            self.assertIs(facts != thing, True)

    def test_the_facts_of_nothing(self):
        self.assertIs(Facts() == Facts(), True)
        for thing in (None, 0, "", (), [], {}, False):
            self.assertIs(Facts() == thing, False)


class Examples(unittest.TestCase):
    def test_the_example(self):
        found = [(Facts(3, None) + Facts("a", 7)).text, 5 in Facts(3, 7), "a" in Facts(3, 7)]
        self.assertEqual(found, ["1 nothing, 2 numbers from 3 to 7, 1 words", True, False])
