"""between.py: [S5.5], and what [S5.3], [S5.6] and [S5.7] say of stocks between."""

import random
import unittest

from eitherbarter.accounts import no_account_row
from eitherbarter.between import all_between, count_between, is_between, nearest_stock
from eitherbarter.books import Book
from eitherbarter.errors import NoAccount, NotGood, TooGreat
from eitherbarter.squares import square_of
from tests.helpers import (
    dependent, drawn_books, drawn_carry, in_time, money, plain_is_good, plain_met, plain_moments, plus, raised, ring,
    there_and_back,
)

BETWEEN = [(0, 0, 2), (0, 2, 1), (0, 4, 0), (5, 1, 1), (5, 3, 0), (10, 0, 1), (10, 2, 0)]


def box(more):
    """A book, two stocks and 500 stocks between them, and one more if asked for."""
    barters = [
        ("p", (-1, 1, 0, 0, 0, 0, 0)), ("q", (0, 0, -1, 1, 0, 0, 0)), ("r", (0, 0, 0, 0, -1, 1, 0)),
        # This can be done only where all the others are done.
        ("s", (0, -4, 0, -9, 0, -9, 1)),
    ]
    g = (0, 0, 0, 0, 0, 0, 1) if more else (0, 4, 0, 9, 0, 9, 0)
    return Book(["a", "b", "c", "d", "e", "f", "g"], barters), (4, 0, 9, 0, 9, 0, 0), g


class Between(unittest.TestCase):
    def check(self, book, f, account, g):
        """All that is told of the stocks between f and g."""
        moments = plain_moments(book, f, account)
        expected = [stock for _, stock in sorted((sum(numbers), stock) for numbers, stock in moments.items())]
        self.assertEqual(count_between(book, f, g), len(expected))
        if len(expected) > 500:
            self.assertEqual(raised(all_between, book, f, g), (TooGreat, None))
            return expected
        self.assertEqual(all_between(book, f, g), expected)
        self.assertEqual(sorted(all_between(book, g, f)), sorted(expected))
        for stock in expected:
            self.assertIs(is_between(book, f, stock, g), True)
            self.assertIs(is_between(book, g, stock, f), True)
        return expected

    def test_the_example(self):
        self.assertEqual(all_between(money(), (0, 0, 2), (10, 2, 0)), BETWEEN)
        self.check(money(), (0, 0, 2), (2, 2), (10, 2, 0))
        self.check(money(), (10, 2, 0), (-2, -2), (0, 0, 2))
        for stock in ((15, 1, 0), (0, 1, 2), (0, 0, 0), (1, 0, 2), (0, 0, 3), (5, 1, 2), (20, 0, 0)):
            self.assertIs(is_between(money(), (0, 0, 2), stock, (10, 2, 0)), False)

    def test_equal_ends_no_goods_and_no_barters(self):
        for book, f in (
            (money(), (5, 1, 1)), (money(), (0, 0, 0)), (Book([], []), ()), (Book(["a", "b"], []), (2, 3)),
        ):
            self.check(book, f, (0,) * len(book.names()), f)
            self.assertEqual(all_between(book, f, f), [f])
            self.assertEqual(count_between(book, f, f), 1)
            self.assertIs(is_between(book, f, f, f), True)
        self.assertIs(is_between(money(), (5, 1, 1), (5, 3, 0), (5, 1, 1)), False)
        self.assertIs(is_between(Book(["a"], []), (2,), (3,), (2,)), False)

    def test_drawn_accounts(self):
        rng = random.Random(281)
        for _ in range(120):
            book, f, account, g = drawn_carry(rng, rng.randint(2, 7), rng.randint(0, 9), 3, rng.choice([0, 0, 1, 9]))
            expected = set(self.check(book, f, account, g))
            for _ in range(10):
                other = plus(rng.choice(sorted(expected)), [rng.randint(-1, 1) for _ in f])
                if min(other) >= 0:
                    self.assertIs(is_between(book, f, other, g), other in expected)

    def test_against_walks(self):
        rng = random.Random(282)
        compared = 0
        for _ in range(60):
            book, f, _, _ = drawn_carry(rng, rng.randint(2, 4), rng.randint(0, 8), 3, 1)
            ahead = plain_met(book, f, bound=200)
            if ahead is None:
                continue
            g = rng.choice(sorted(ahead))
            back = plain_met(book, g)
            for h in ahead:
                expected = ahead[h] + back[h] == ahead[g]
                self.assertIs(is_between(book, f, h, g), expected)
                self.assertIs(h in all_between(book, f, g), expected)
                compared += 1
        self.assertGreater(compared, 400)

    def test_five_hundred_and_one_more(self):
        book, f, g = box(False)
        self.assertEqual(len(self.check(book, f, (4, 9, 9, 0), g)), 500)
        self.assertEqual(len(all_between(book, f, g)), 500)
        book, f, g = box(True)
        self.assertEqual(len(self.check(book, f, (4, 9, 9, 1), g)), 501)
        self.assertEqual(raised(all_between, book, f, g), (TooGreat, None))
        self.assertEqual(raised(all_between, book, g, f), (TooGreat, None))
        self.assertEqual(count_between(book, g, f), 501)

    def test_accounts_of_any_number_of_deeds(self):
        great = 10 ** 6
        f, g = (0, 0, great), (great * 10, 0, 0)
        self.assertIs(is_between(money(), f, (5, 1, great - 1), g), True)
        self.assertIs(is_between(money(), f, (great * 10, 2, great), g), False)

    def test_books_at_the_limits(self):
        rng = random.Random(283)
        for _ in range(10):
            book, f, account, g = drawn_carry(rng, 10, 60, 9, 0, 1.0)
            in_time(all_between, book, f, g)
            f, g = plus(f, (10 ** 5,) * 10), plus(g, (10 ** 5,) * 10)
            self.assertIsInstance(in_time(all_between, book, f, g), TooGreat)
            in_time(is_between, book, f, plus(f, (1,) * 10), g)
        book, f, account, g = drawn_carry(rng, 10, 11, 9, 9, 1.0)
        in_time(count_between, book, f, g)


class Errors(unittest.TestCase):
    def test_books_that_are_not_good(self):
        books = [there_and_back(), dependent(), ring(3)]
        books += [book for book in drawn_books(284, 60) if not plain_is_good(book)]
        for book in books:
            f, g = (1,) * len(book.goods()), (2,) + (0,) * (len(book.goods()) - 1)
            for call in (
                (is_between, book, f, f, g), (is_between, book, f, g, f), (all_between, book, f, g),
                (count_between, book, f, g), (nearest_stock, book, f, [g, f]), (all_between, book, f, f),
            ):
                self.assertEqual(raised(*call), (NotGood, square_of(book)))

    def test_ends_without_an_account(self):
        f, g = (0, 0, 2), (0, 0, 3)
        for book, f, g in ((money(), (0, 0, 2), (0, 0, 3)), (Book(["a"], []), (0,), (1,))):
            row = no_account_row(book, f, g)
            for call in (
                (is_between, book, f, f, g), (is_between, book, f, g, g), (all_between, book, f, g),
                (count_between, book, f, g),
            ):
                self.assertEqual(raised(*call), (NoAccount, row))


class Nearest(unittest.TestCase):
    def test_examples(self):
        f = (0, 0, 2)
        self.assertEqual(nearest_stock(money(), f, [(10, 2, 0), (5, 1, 1), (0, 4, 0)]), 1)
        self.assertEqual(nearest_stock(money(), f, ((10, 2, 0), (0, 4, 0), (5, 1, 1))), 1)
        self.assertEqual(nearest_stock(money(), f, [(10, 2, 0), f, f]), 1)
        self.assertEqual(nearest_stock(money(), f, [(0, 0, 3), (10, 2, 0), (1, 1, 1)]), 1)
        self.assertEqual(nearest_stock(money(), f, [(0, 4, 0), (0, 4, 0), (10, 2, 0)]), 0)
        self.assertEqual(nearest_stock(money(), f, [(10, 2, 0), (0, 4, 0), (0, 4, 0), (10, 2, 0)]), 1)
        self.assertIsNone(nearest_stock(money(), f, [(0, 0, 3), (1, 1, 1), (0, 0, 3)]))
        self.assertEqual(nearest_stock(Book([], []), (), [(), ()]), 0)
        self.assertEqual(nearest_stock(Book(["a"], []), (3,), [(2,), (3,)]), 1)
        self.assertIsNone(nearest_stock(Book(["a"], []), (3,), [(2,)]))

    def test_against_walks(self):
        rng = random.Random(285)
        for _ in range(60):
            book, f, _, _ = drawn_carry(rng, rng.randint(2, 4), rng.randint(0, 8), 3, 1)
            met = plain_met(book, f, bound=200)
            if met is None:
                continue
            stocks = rng.choices(sorted(met), k=rng.randint(0, 6))
            stocks += [tuple(rng.randint(0, 3) for _ in f) for _ in range(rng.randint(1, 3))]
            rng.shuffle(stocks)
            found = [(met[stock], k) for k, stock in enumerate(stocks) if stock in met]
            self.assertEqual(nearest_stock(book, f, stocks), min(found)[1] if found else None)


if __name__ == "__main__":
    unittest.main()
