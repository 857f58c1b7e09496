"""Ratios: points 1.1 and 1.2."""

import unittest
from fractions import Fraction
from math import gcd

from rivalprices.errors import InvalidRatio, PriceError
from rivalprices.ratio import add, at_most, less, over, ratio, sign, sub, times

LONG = 10 ** 5000 + 7
PARTS = tuple(range(-7, 8)) + (30, -30, 999999999999999999999, LONG, -LONG)
SECONDS = (1, 2, 3, 4, 6, 9, 30, 10 ** 40, LONG - 1)
NO_INTEGERS = (True, False, "", "1", "x", (), (1,), (1, 2), [], [1], None)


def told(value):
    """The ratio as the test expects it."""
    return (value.numerator, value.denominator)


def some_ratios():
    whole = [Fraction(n, d) for n in range(-5, 6) for d in (1, 2, 3, 6)]
    far = [Fraction(LONG, 3), Fraction(-LONG, 3), Fraction(3, LONG), Fraction(-3, LONG), Fraction(LONG)]
    return sorted(set(whole + far))


class OneForm(unittest.TestCase):
    def check_form(self, value):
        self.assertIs(type(value), tuple)
        self.assertEqual([type(part) for part in value], [int, int])
        self.assertEqual(gcd(*value), 1)
        self.assertGreaterEqual(value[1], 1)

    def test_ratio_gives_the_one_form(self):
        for n in PARTS:
            for d in SECONDS:
                value = ratio(n, d)
                self.check_form(value)
                self.assertTrue(value == told(Fraction(n, d)))

    def test_some_ratios_written_out(self):
        self.assertEqual(ratio(6, 4), (3, 2))
        self.assertEqual(ratio(-6, 4), (-3, 2))
        self.assertEqual(ratio(0, 9), (0, 1))
        self.assertEqual(ratio(8, 8), (1, 1))
        self.assertEqual(ratio(-12, 3), (-4, 1))
        self.assertEqual(ratio(n=10, d=15), (2, 3))

    def test_an_integer_alone_has_1_behind_it(self):
        for n in PARTS:
            self.assertTrue(ratio(n) == (n, 1))
            self.check_form(ratio(n))

    def test_equal_ratios_are_the_same_tuple(self):
        self.assertEqual(ratio(2, 6), ratio(5, 15))
        self.assertNotEqual(ratio(1, 3), ratio(-1, 3))

    def test_sums_differences_products_quotients(self):
        for a in some_ratios():
            for b in some_ratios():
                results = [
                    (add(told(a), told(b)), a + b), (sub(told(a), told(b)), a - b),
                    (times(told(a), told(b)), a * b),
                ]
                if b != 0:
                    results.append((over(told(a), told(b)), a / b))
                for value, expected in results:
                    self.check_form(value)
                    self.assertTrue(value == told(expected))

    def test_the_examples_of_the_document(self):
        self.assertEqual(sub(ratio(1, 2), ratio(2, 3)), (-1, 6))
        self.assertEqual(over(ratio(3), ratio(-6, 5)), (-5, 2))

    def test_order(self):
        for a in some_ratios():
            for b in some_ratios():
                self.assertIs(less(told(a), told(b)), a < b)
                self.assertIs(at_most(told(a), told(b)), a <= b)

    def test_order_of_ratios_that_are_near(self):
        self.assertIs(less((1, 3), (333334, 1000000)), True)
        self.assertIs(less((-1, 3), (-333334, 1000000)), False)
        self.assertIs(less((LONG, LONG - 1), (LONG - 1, LONG - 2)), True)
        self.assertIs(at_most((1, 2), (1, 2)), True)
        self.assertIs(less((1, 2), (1, 2)), False)

    def test_sign(self):
        for value in some_ratios():
            found = sign(told(value))
            self.assertEqual(found, (value > 0) - (value < 0))
            self.assertIs(type(found), int)


class Refused(unittest.TestCase):
    def check_refused(self, work, *parts):
        for base in (InvalidRatio, PriceError, ValueError):
            with self.assertRaises(base):
                work(*parts)

    def test_a_first_part_that_is_no_integer(self):
        for part in NO_INTEGERS:
            with self.subTest(part=part):
                self.check_refused(ratio, part)
                self.check_refused(ratio, part, 1)
                self.check_refused(ratio, part, 0)

    def test_a_second_part_that_is_no_integer(self):
        for part in NO_INTEGERS:
            with self.subTest(part=part):
                self.check_refused(ratio, 1, part)
                self.check_refused(ratio, 0, part)
                self.check_refused(ratio, part, part)

    def test_a_second_part_below_1(self):
        for d in (0, -1, -2, -LONG):
            for n in (0, 1, -1, 4, LONG):
                self.check_refused(ratio, n, d)
        self.assertEqual(ratio(4, 1), (4, 1))

    def test_a_quotient_by_0(self):
        for a in ((0, 1), (1, 1), (-2, 3), (LONG, 1)):
            self.check_refused(over, a, (0, 1))
        self.assertEqual(over((0, 1), (-2, 3)), (0, 1))
        self.assertEqual(over((1, 1), (-1, LONG)), (-LONG, 1))


if __name__ == "__main__":
    unittest.main()
