"""Equations: points 2.1 to 2.3."""

import copy
import unittest
from fractions import Fraction

from rivalprices.errors import PriceError, Singular
from rivalprices.matrix import is_dominant, product, solve


def ratios(values):
    """Whole numbers and fractions as ratios."""
    return [(Fraction(value).numerator, Fraction(value).denominator) for value in values]


def table(*rows):
    return [ratios(row) for row in rows]


def numbers(count, start, modulus=31):
    """Numbers without an order to the eye, the same in each run."""
    found = []
    state = start
    for _ in range(count):
        state = (state * 1103515245 + 12345) & 0x7FFFFFFF
        found.append(Fraction((state >> 8) % modulus - modulus // 2, (state >> 20) % 4 + 1))
    return found


def square(size, start):
    values = numbers(size * size, start)
    return [values[at * size:(at + 1) * size] for at in range(size)]


def determinant(rows):
    """By the first row, so in another way than the program goes."""
    if not rows:
        return Fraction(1)
    total = Fraction(0)
    for at, value in enumerate(rows[0]):
        rest = [row[:at] + row[at + 1:] for row in rows[1:]]
        total += (-1) ** at * value * determinant(rest)
    return total


class Products(unittest.TestCase):
    def test_any_number_of_rows(self):
        values = ratios([2, Fraction(-1, 3)])
        self.assertEqual(product([], values), [])
        self.assertEqual(product(table([1, 3]), values), [(1, 1)])
        self.assertEqual(
            product(table([1, 3], [0, 0], [Fraction(1, 2), Fraction(1, 2)]), values), [(1, 1), (0, 1), (5, 6)])
        self.assertEqual(product([[], []], []), [(0, 1), (0, 1)])
        self.assertEqual(product([], []), [])

    def test_more_columns_than_rows(self):
        self.assertEqual(product(table([1, 2, 3, 4]), ratios([1, -1, 1, -1])), [(-2, 1)])

    def test_against_fractions(self):
        for size in range(1, 7):
            rows = square(size, size)
            values = numbers(size, 99 + size)
            expected = [sum(a * b for a, b in zip(row, values)) for row in rows]
            self.assertEqual(product(table(*rows), ratios(values)), ratios(expected))

    def test_arguments_stay_and_the_result_is_new(self):
        rows = table([1, 0], [0, 1])
        values = ratios([5, 7])
        found = product(rows, values)
        self.assertIs(type(found), list)
        self.assertEqual(found, values)
        self.assertIsNot(found, values)
        found.append("more")
        self.assertEqual((rows, values), (table([1, 0], [0, 1]), ratios([5, 7])))
        self.assertEqual(product(rows, values), values)


class OneSolution(unittest.TestCase):
    def check(self, rows, values):
        """The equations with this one solution give it back, and stay as they are."""
        left = table(*rows)
        right = ratios([sum((a * b for a, b in zip(row, values)), Fraction(0)) for row in rows])
        before = copy.deepcopy((left, right))
        self.assertEqual(solve(left, right), ratios(values))
        self.assertEqual((left, right), before)

    def test_the_example_of_the_document(self):
        found = solve([[(0, 1), (2, 1)], [(1, 1), (1, 3)]], [(3, 1), (1, 1)])
        self.assertEqual(found, [(1, 2), (3, 2)])

    def test_one_equation(self):
        self.assertEqual(solve(table([-4]), ratios([6])), [(-3, 2)])
        self.assertEqual(solve(table([3]), ratios([0])), [(0, 1)])

    def test_one_to_seven_equations(self):
        checked = 0
        for size in range(1, 8):
            for start in range(12):
                rows = square(size, 7 * size + start)
                if determinant(rows) != 0:
                    self.check(rows, numbers(size, start + 50))
                    checked += 1
        self.assertGreater(checked, 60)

    def test_zeros_where_the_first_columns_begin(self):
        for size in range(2, 7):
            turned = [[Fraction(int(row + column == size - 1)) for column in range(size)] for row in range(size)]
            self.check(turned, numbers(size, size))
            rolled = [[Fraction(int(column == (row + 1) % size)) for column in range(size)] for row in range(size)]
            self.check(rolled, numbers(size, size + 1))
        self.check([[0, 0, 2], [0, 3, 1], [4, 1, 1]], [1, Fraction(1, 2), -5])
        self.check([[1, 1, 1], [1, 1, 2], [1, 2, 1]], [3, -4, Fraction(5, 7)])

    def test_many_digits(self):
        far = 10 ** 60 + 1
        self.check([[far, far - 1], [far - 1, far - 2]], [Fraction(1, far), Fraction(-far, 3)])

    def test_no_equations_have_the_one_empty_solution(self):
        self.assertEqual(solve([], []), [])

    def test_the_result_is_new(self):
        right = ratios([5, 7])
        rows = table([1, 0], [0, 1])
        found = solve(rows, right)
        self.assertIs(type(found), list)
        self.assertEqual(found, right)
        found[0] = (9, 1)
        found.append("more")
        self.assertEqual(right, ratios([5, 7]))
        self.assertEqual(rows, table([1, 0], [0, 1]))


class NoSingleSolution(unittest.TestCase):
    def check(self, rows):
        size = len(rows)
        left = table(*rows)
        before = copy.deepcopy(left)
        # Right sides of zeros have a solution in any case, others may have none.
        for right in ([0] * size, [1] * size, list(range(size)), rows[0], [sum(row) for row in rows]):
            told = ratios(right)
            for error in (Singular, PriceError, ValueError):
                with self.assertRaises(error):
                    solve(left, told)
            self.assertEqual(told, ratios(right))
        self.assertEqual(left, before)

    def test_one_equation_of_zero(self):
        self.check([[0]])

    def test_a_row_that_is_a_multiple_of_another_one(self):
        for size in range(2, 7):
            for factor in (1, -2, Fraction(3, 7), 0):
                for last in (True, False):
                    rows = square(size, 3 + size)
                    fresh = [factor * value for value in rows[0]]
                    rows = [*rows[:-1], fresh] if last else [fresh, *rows[:-1]]
                    self.check(rows)

    def test_a_row_that_is_a_sum_of_two_others(self):
        for size in range(3, 7):
            rows = square(size, 11 + size)
            rows[size // 2] = [a + b for a, b in zip(rows[0], rows[-1])]
            self.check(rows)

    def test_a_column_of_zeros(self):
        for size in range(1, 7):
            for place in range(size):
                rows = square(size, 21 + size)
                self.check([[0 if at == place else value for at, value in enumerate(row)] for row in rows])

    def test_a_column_that_is_a_multiple_of_another_one(self):
        self.check([[1, 2, 5], [2, 4, -1], [-3, -6, 0]])

    def test_a_near_one_is_not_singular(self):
        near = [[1, 2], [2, 4 + Fraction(1, 10 ** 30)]]
        self.assertEqual(solve(table(*near), ratios([1, 2])), [(1, 1), (0, 1)])


class Dominant(unittest.TestCase):
    def test_own_ratios_of_either_sign(self):
        self.assertIs(is_dominant(table([3, 1, -1], [1, -3, 1], [0, 0, 1])), True)
        self.assertIs(is_dominant(table([-3, -1, -1], [1, 5, -1], [-1, -1, -3])), True)

    def test_one_row(self):
        self.assertIs(is_dominant(table([1])), True)
        self.assertIs(is_dominant(table([Fraction(-1, 9)])), True)
        self.assertIs(is_dominant(table([0])), False)

    def test_rows_that_fail_of_it_by_nothing_little_and_much(self):
        little = Fraction(1, 10 ** 30)
        for own in (1, -1):
            for others in ([1, 0], [0, -1], [Fraction(1, 3), Fraction(2, 3)], [Fraction(1, 2), Fraction(-1, 2)]):
                for more, expected in ((little, True), (0, False), (-little, False), (Fraction(-9, 10), False)):
                    row = [own * (1 + more), *others]
                    self.assertIs(is_dominant(table(row, [0, 1, 0], [0, 0, 1])), expected)
                    turned = [*others, own * (1 + more)]
                    self.assertIs(is_dominant(table([1, 0, 0], [0, 1, 0], turned)), expected)

    def test_each_row_counts(self):
        good = [[4, 1, 1, -1], [1, 4, 1, -1], [1, 1, -4, 1], [-1, 1, 1, 4]]
        self.assertIs(is_dominant(table(*good)), True)
        for at in range(4):
            rows = copy.deepcopy(good)
            rows[at][at] = 3
            self.assertIs(is_dominant(table(*rows)), False)

    def test_columns_do_not_count(self):
        self.assertIs(is_dominant(table([10, 9], [9, 10])), True)
        self.assertIs(is_dominant(table([10, 1, 1], [9, 10, 0], [9, 0, 10])), True)
        self.assertIs(is_dominant(table([10, 9, 9], [1, 10, 0], [1, 0, 10])), False)

    def test_the_greatest_but_not_more_than_the_sum(self):
        self.assertIs(is_dominant(table([3, 2, 2], [0, 1, 0], [0, 0, 1])), False)
        self.assertIs(is_dominant(table([3, 2, -2], [0, 1, 0], [0, 0, 1])), False)

    def test_rows_stay_as_they_are(self):
        rows = table([2, 1], [1, -2])
        is_dominant(rows)
        self.assertEqual(rows, table([2, 1], [1, -2]))

    def test_dominant_rows_have_just_one_solution(self):
        for size in range(1, 7):
            rows = square(size, 31 + size)
            for at, row in enumerate(rows):
                own = sum(abs(value) for value in row) + Fraction(1, 5)
                row[at] = own if at != 1 else -own
            self.assertIs(is_dominant(table(*rows)), True)
            for right in (ratios([0] * size), ratios(numbers(size, size)), ratios([1] * size)):
                found = solve(table(*rows), right)
                self.assertEqual(product(table(*rows), found), right)


if __name__ == "__main__":
    unittest.main()
