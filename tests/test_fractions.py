"""fractions.py: the fractions of [S3.5] and [0.2]."""

import random
import unittest
from fractions import Fraction

from eitherbarter.fractions import added, is_fraction, lowest, row_sum, times
from tests.helpers import anything


def pair(number):
    """A fraction of Python's own as a pair."""
    return (number.numerator, number.denominator)


class Fractions(unittest.TestCase):
    def test_lowest(self):
        for a, b, expected in (
            (1, 2, (1, 2)), (2, 4, (1, 2)), (-2, 4, (-1, 2)), (2, -4, (-1, 2)), (-2, -4, (1, 2)), (0, 5, (0, 1)),
            (0, -5, (0, 1)), (0, 1, (0, 1)), (6, 3, (2, 1)), (-6, 3, (-2, 1)), (6, -3, (-2, 1)), (5, 1, (5, 1)),
            (5, -1, (-5, 1)), (10 ** 40, 10 ** 39, (10, 1)), (3 * 10 ** 40, -6 * 10 ** 39, (-5, 1)),
        ):
            self.assertEqual(lowest(a, b), expected)
            self.assertIs(type(lowest(a, b)), tuple)

    def test_sums_and_products(self):
        self.assertEqual(added((1, 2), (1, 3)), (5, 6))
        self.assertEqual(added((1, 2), (-1, 2)), (0, 1))
        self.assertEqual(added((1, 6), (1, 3)), (1, 2))
        self.assertEqual(times((2, 3), (3, 4)), (1, 2))
        self.assertEqual(times((-2, 3), (3, 2)), (-1, 1))
        self.assertEqual(times((0, 1), (-7, 3)), (0, 1))
        self.assertEqual(added((0, 1), (0, 1)), (0, 1))

    def test_drawn_fractions(self):
        rng = random.Random(91)
        for _ in range(500):
            most = rng.choice([3, 12, 10 ** 12, 10 ** 40])
            a, b = rng.randint(-most, most), rng.choice([-1, 1]) * rng.randint(1, most)
            one = Fraction(a, b)
            other = Fraction(rng.randint(-most, most), rng.randint(1, most))
            self.assertEqual(lowest(a, b), pair(one))
            self.assertEqual(added(pair(one), pair(other)), pair(one + other))
            self.assertEqual(times(pair(one), pair(other)), pair(one * other))
            self.assertIs(is_fraction(pair(one)), True)
            self.assertIs(is_fraction((2 * one.numerator, 2 * one.denominator)), False)
            self.assertIs(is_fraction((one.numerator, -one.denominator)), False)

    def test_is_fraction(self):
        for value in ((0, 1), (1, 1), (-1, 1), (1, 2), (-3, 7), (10 ** 40, 1), (1, 10 ** 40)):
            self.assertIs(is_fraction(value), True, value)
        for value in (
            (0, 2), (0, -1), (0, 0), (1, 0), (2, 2), (2, 4), (-2, 4), (1, -2), (-1, -2), [1, 2], (1,), (1, 2, 3), (),
            (True, 1), (1, True), (False, 1), (True, True), (True, 2), (None, 1), (1, None), ("1", 2), (1, "2"),
            ((1, 2), 1), (1, (1, 2)), 1, 0, "12", None,
        ):
            self.assertIs(is_fraction(value), False, value)

    def test_values_of_all_kinds(self):
        for value in anything():
            self.assertIs(is_fraction(value), False)
            self.assertIs(is_fraction((value, value)), type(value) is int and value == 1)
            self.assertIs(is_fraction((1, value)), type(value) is int and value >= 1)
            self.assertIs(is_fraction((value, 1)), type(value) is int)


class RowSums(unittest.TestCase):
    def test_examples(self):
        half = ((1, 2), (0, 1), (0, 1))
        self.assertEqual(row_sum((-2, 1, 0), half), (-1, 1))
        self.assertEqual(row_sum((0, -3, 1), half), (0, 1))
        self.assertEqual(row_sum((-1, 2, 0), half), (-1, 2))
        self.assertEqual(row_sum((0, -1, 0), ((1, 6), (1, 3), (1, 1))), (-1, 3))

    def test_rows_of_no_members(self):
        for row in ((), []):
            for fractions in ((), []):
                self.assertEqual(row_sum(row, fractions), (0, 1))

    def test_lists_and_tuples(self):
        for row in ((3, -4), [3, -4]):
            for fractions in (((1, 6), (1, 4)), [(1, 6), (1, 4)]):
                self.assertEqual(row_sum(row, fractions), (-1, 2))

    def test_drawn_rows(self):
        rng = random.Random(92)
        for _ in range(200):
            many = rng.randint(1, 10)
            row = [rng.randint(-10 ** 12, 10 ** 12) for _ in range(many)]
            numbers = [Fraction(rng.randint(-99, 99), rng.randint(1, 99)) for _ in range(many)]
            expected = sum((n * x for n, x in zip(row, numbers)), Fraction(0))
            self.assertEqual(row_sum(tuple(row), [pair(x) for x in numbers]), pair(expected))


if __name__ == "__main__":
    unittest.main()
