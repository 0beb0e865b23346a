"""The fractions and their texts, which the other modules are built on."""

import unittest
from fractions import Fraction

from placeworths.exact import (
    are_ascending, are_shares, divided, greater, highest, in_order, is_below, is_fraction, is_integer, lesser, minus,
    multiplied, negative, plus, reduced, total,
)
from placeworths.written import number_in, number_text
from tests.helpers import fraction, number, odd_values, random_number, some_random, wrong_numbers

SMALL = [number(Fraction(top, bottom)) for top in range(-4, 5) for bottom in (1, 2, 3)]


class Exact(unittest.TestCase):
    def test_forms(self):
        for value in odd_values():
            self.assertIs(is_integer(value), type(value) is int)
        for value in wrong_numbers():
            self.assertIs(is_fraction(value), False)
        for value in SMALL:
            self.assertIs(is_fraction(value), True)

    def test_two_numbers_against_fractions_of_another_making(self):
        for one in SMALL:
            for two in SMALL:
                x, y = fraction(one), fraction(two)
                self.assertEqual([plus(one, two), minus(one, two)], [number(x + y), number(x - y)])
                self.assertEqual([multiplied(one, two), is_below(one, two)], [number(x * y), x < y])
                self.assertEqual([lesser(one, two), greater(one, two)], [number(min(x, y)), number(max(x, y))])
                if y:
                    self.assertEqual(divided(one, two), number(x / y))
            self.assertEqual(negative(one), number(-fraction(one)))

    def test_lowest_terms(self):
        for top in range(-6, 7):
            for bottom in (-6, -4, -1, 1, 4, 6):
                self.assertEqual(reduced(top, bottom), number(Fraction(top, bottom)))

    def test_lists_of_numbers(self):
        random = some_random(1)
        for _ in range(50):
            some = [random_number(random) for _ in range(random.randint(1, 6))]
            values = [fraction(one) for one in some]
            self.assertEqual([total(some), highest(some)], [number(sum(values)), number(max(values))])
            self.assertEqual(in_order(some), [number(value) for value in sorted(set(values))])
            self.assertIs(are_ascending(some), values == sorted(set(values)))
        self.assertEqual([total([]), in_order([]), are_ascending([]), are_shares([])], [(0, 1), [], True, False])

    def test_shares(self):
        self.assertIs(are_shares([(1, 2), (1, 3), (1, 6)]), True)
        for some in ([(1, 2), (1, 3)], [(1, 2), (1, 2), (0, 1)], [(3, 2), (-1, 2)], [(2, 1)]):
            self.assertIs(are_shares(some), False)


class Written(unittest.TestCase):
    def test_texts_and_back(self):
        for one in SMALL + [(10 ** 5000 + 3, 10 ** 5000), (-(7 ** 9000), 3)]:
            self.assertEqual(number_in(number_text(one)), one)
        self.assertEqual([number_text((-3, 2)), number_text((0, 1))], ["-3/2", "0/1"])

    def test_what_is_no_text_of_a_number(self):
        for text in (
            "", "/", "1", "1/", "/1", "2/4", "0/2", "-0/1", "01/2", "1/02", "+1/2", "1/-2", "1/0", "--1/2", "1//2",
            "1/2/3", " 1/2", "1/2 ", "1 /2", "-/2", "1_0/3", "\u0661/2", "\u00b2/3", "a/b",
        ):
            self.assertIsNone(number_in(text), text)


if __name__ == "__main__":
    unittest.main()
