"""points.py and shortrows.py, the inner files by which mirrors.py finds accounts to stocks ([S9.3])."""

import itertools
import math
import random
import unittest
from fractions import Fraction

from eitherbarter.books import Book
from eitherbarter.points import account_from, bounds_of, corners_of, outward, squares_of
from eitherbarter.shortrows import short_rows
from eitherbarter.solving import stairs_of
from tests.helpers import drawn_good_book, in_time, plain_balance, plain_kernel, plus, rank_and_divisor


def drawn_rows(rng, rows, places, most):
    """So many independent rows of integers."""
    while True:
        found = [tuple(rng.randint(-most, most) for _ in range(places)) for _ in range(rows)]
        if rank_and_divisor(found)[0] == rows:
            return found


def weighed(squares, one, other):
    """The product of two rows in which each place counts as often as its square tells."""
    return sum(square * a * b for square, a, b in zip(squares, one, other))


def leans(squares, rows):
    """For each row its upright part's square, and how far it leans on each of those ahead of it, as fractions."""
    upright, lean = [], []
    for row in rows:
        part, told = [Fraction(number) for number in row], []
        for other in upright:
            told.append(Fraction(weighed(squares, row, other)) / weighed(squares, other, other))
            part = [a - told[-1] * b for a, b in zip(part, other)]
        upright.append(part)
        lean.append(told)
    return [weighed(squares, part, part) for part in upright], lean


class ShortRows(unittest.TestCase):
    def check(self, rows, squares):
        short = in_time(short_rows, rows, squares)
        self.assertEqual(len(short), len(rows))
        # Integers lead from the one to the other and back.
        self.assertEqual(stairs_of(short), stairs_of(rows))
        sizes, lean = leans(squares, short)
        for k, told in enumerate(lean):
            self.assertTrue(all(abs(number) <= Fraction(1, 2) for number in told))
            if k:
                self.assertGreaterEqual(sizes[k], (Fraction(3, 4) - told[-1] ** 2) * sizes[k - 1])
        return short

    def test_drawn_rows(self):
        rng = random.Random(411)
        for most in (1, 5, 99, 10 ** 6, 10 ** 20):
            for many in (1, 2, 3, 4, 5):
                for places in (many, many + 1, 6):
                    squares = [rng.randint(1, 9) ** 2 for _ in range(places)]
                    self.check(drawn_rows(rng, many, places, most), squares)

    def test_places_that_do_not_count(self):
        # What stands behind the squares goes along, and tells how the rows were combined.
        rng = random.Random(412)
        for _ in range(20):
            rows = drawn_rows(rng, 3, 4, 50)
            told = [row + tuple(int(j == k) for j in range(3)) for k, row in enumerate(rows)]
            for row in short_rows(told, [1, 4, 9, 1]):
                total = (0,) * 4
                for number, one in zip(row[4:], rows):
                    total = plus(total, one, number)
                self.assertEqual(row[:4], total)

    def test_rows_that_are_short_already_and_none(self):
        self.assertEqual(short_rows([], [1, 1]), [])
        self.assertEqual(short_rows([(1, 0), (0, 1)], [1, 1]), [(1, 0), (0, 1)])
        self.assertEqual(self.check([(1, 0), (1000, 1)], [1, 1]), [(1, 0), (0, 1)])
        self.assertEqual(self.check([(0, 3), (1, 0)], [1, 1]), [(1, 0), (0, 3)])
        rows = [(5, 2), (7, 3)]
        short_rows(rows, [1, 1])
        self.assertEqual(rows, [(5, 2), (7, 3)])


class Bodies(unittest.TestCase):
    def test_corners(self):
        rng = random.Random(413)
        found = 0
        for _ in range(80):
            book, _ = drawn_good_book(rng, rng.randint(2, 5), rng.choice([0.7, 1.0]), 4)
            rows = [row for _, row in book.barters()]
            point = tuple(rng.randint(-4, 9) for _ in book.goods())
            corners = corners_of(point, rows)
            kernel = plain_kernel(rows, len(point))
            for corner in corners:
                self.assertGreater(corner[-1], 0)
                stock = [Fraction(number, corner[-1]) for number in corner[:-1]]
                self.assertGreaterEqual(min(stock), 0)
                self.assertGreaterEqual(stock.count(0), len(rows))
                for row in kernel:
                    self.assertEqual(sum(a * (b - c) for a, b, c in zip(row, stock, point)), 0)
            found += len(corners) > 1
            # Each stock to which an account leads is within the corners, good by good.
            for account in itertools.product(range(-2, 3), repeat=len(rows)):
                stock = plus(point, plain_balance(book, account))
                if min(stock) >= 0:
                    for j, number in enumerate(stock):
                        told = [Fraction(corner[j], corner[-1]) for corner in corners]
                        self.assertTrue(min(told) <= number <= max(told))
        self.assertGreater(found, 30)

    def test_no_corners(self):
        self.assertEqual(corners_of((-1, 0), [(-1, 1)]), [])
        self.assertEqual(corners_of((-1, 2), []), [])
        self.assertEqual(corners_of((1, 2), []), [(1, 2, 1)])
        self.assertEqual(corners_of((0, 1), [(-1, 1)]), [(0, 1, 1), (1, 0, 1)])

    def test_bounds(self):
        rng = random.Random(414)
        for _ in range(200):
            places = rng.randint(2, 6)
            *others, last = drawn_rows(rng, rng.randint(1, places - 1), places, 9)
            point = tuple(rng.randint(-20, 20) for _ in range(places))
            corners, told = [], []
            for _ in range(rng.randint(1, 5)):
                bottom = rng.randint(1, 7)
                corner = tuple(bottom * number for number in point)
                for row in others:
                    corner = plus(corner, row, rng.randint(-30, 30))
                told.append(Fraction(rng.randint(-30, 30), bottom))
                corners.append(plus(corner, last, int(told[-1] * bottom)) + (bottom,))
            bounds = bounds_of(corners, point, others, last)
            self.assertEqual(bounds, (math.ceil(min(told)), math.floor(max(told))))

    def test_squares(self):
        # The factors make the widths of the body about as great as one another.
        self.assertEqual(squares_of([(0, 3, 1), (3, 0, 1)]), [10 ** 6, 10 ** 6])
        self.assertEqual(squares_of([(0, 30, 10), (2, 0, 1)]), [1500 ** 2, 1000 ** 2])
        self.assertEqual(squares_of([(0, 1, 7, 1), (10, 0, 7, 1)]), [1000 ** 2, 10 ** 8, (10 ** 7 + 1) ** 2])
        self.assertEqual(squares_of([(4, 5, 1)]), [1, 1])

    def test_outward(self):
        self.assertEqual([outward(step) for step in range(7)], [0, 1, -1, 2, -2, 3, -3])


class LongAndThin(unittest.TestCase):
    def test_bodies_in_which_the_barters_themselves_are_long(self):
        # By the barters as they are told there would be very many multiples to be tried.
        great = 10 ** 12
        book = Book(["a", "b", "c"], [("p", (-great, great + 1, 0)), ("q", (-1, -1, 1))])
        for row in itertools.product((-60, -1, 0, 59), repeat=3):
            account = in_time(account_from, book, row)
            self.assertEqual(account is not None, self.brute(book, row))
            if account is not None:
                self.assertGreaterEqual(min(plus(row, plain_balance(book, account))), 0)

    @staticmethod
    def brute(book, row):
        """Whether an account that asks for the great barter a few times leads to a stock."""
        for p in range(-2, 3):
            start = plus(row, book.row("p"), p)
            # The other barter is asked for so often that there is just enough of the third good.
            if min(plus(start, book.row("q"), -start[2])) >= 0:
                return True
        return False


if __name__ == "__main__":
    unittest.main()
