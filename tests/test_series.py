"""series.py: [S9.2], what [S9.1] says of weights, A, G and C of [S9.3], and the numbers in [S9.5]."""

import math
import random
import unittest

from eitherbarter.books import Book, turned_book
from eitherbarter.errors import NotGood
from eitherbarter.series import lot_series, mirror, stock_series
from eitherbarter.weights import judge_weights, weight, weights_of
from tests.helpers import (
    drawn_book, drawn_books, drawn_weighted, in_time, letters, money, plain_first_stocks,
    plain_is_good, plain_is_square, plain_met, plain_stocks, raised, ring, there_and_back, three, three_twos,
)


def plain_product(weights, steps, most):
    """The coefficients up to most of the product of all (1 - t ** d), divided by the product of all (1 - t ** w)."""
    row = [1] + [0] * most
    for step in steps:
        row = [row[k] - (row[k - step] if k >= step else 0) for k in range(most + 1)]
    for step in weights:
        # One divided by (1 - t ** w) is 1 + t ** w + t ** 2w and so on.
        row = [sum(row[k - more] for more in range(0, k + 1, step)) for k in range(most + 1)]
    return row


class StockSeries(unittest.TestCase):
    def test_the_example(self):
        self.assertEqual(stock_series([4, 6, 5], 12), [1, 0, 0, 0, 1, 1, 1, 0, 1, 1, 2, 1, 2])

    def test_no_weights_and_the_weight_nought(self):
        self.assertEqual(stock_series([], 5), [1, 0, 0, 0, 0, 0])
        self.assertEqual(stock_series((), 0), [1])
        self.assertEqual(stock_series([3, 1], 0), [1])
        self.assertEqual(stock_series([7], 6), [1, 0, 0, 0, 0, 0, 0])

    def test_against_a_listing(self):
        rng = random.Random(311)
        for _ in range(80):
            weights = [rng.randint(1, 9) for _ in range(rng.randint(0, 5))]
            most = rng.randint(0, 20)
            stocks = plain_stocks(weights, most)
            expected = [len(stocks[number]) for number in range(most + 1)]
            self.assertEqual(stock_series(weights, most), expected)
            self.assertEqual(stock_series(tuple(weights), most), expected)
            self.assertEqual(stock_series(weights[::-1], most), expected)

    def test_great_weights_and_numbers(self):
        self.assertEqual(stock_series([1] * 10, 300)[300], math.comb(309, 9))
        self.assertEqual(stock_series([301, 300], 300), [1] + [0] * 299 + [1])
        self.assertEqual(len(in_time(stock_series, list(range(1, 11)), 300)), 301)


class LotSeries(unittest.TestCase):
    def test_the_examples(self):
        self.assertEqual(lot_series(three_twos(), (4, 6, 5), 12), [1, 0, 0, 0, 1, 1, 1, 0, 1, 1, 1, 1, 1])
        self.assertEqual(lot_series(three_twos(), [4, 6, 5], 60)[8:], [1] * 53)
        pairs = Book(["a", "b"], [("p", (-2, 2))])
        self.assertEqual(lot_series(pairs, (1, 1), 5), [1, 2, 2, 2, 2, 2])

    def test_no_goods_no_barters_and_the_weight_nought(self):
        self.assertEqual(lot_series(Book([], []), (), 3), [1, 0, 0, 0])
        self.assertEqual(lot_series(Book(["a"], []), (2,), 5), [1, 0, 1, 0, 1, 0])
        self.assertEqual(lot_series(Book(["a", "b"], []), (2, 3), 6), stock_series([2, 3], 6))
        for book, weights in ((three(), (1, 2, 6)), (money(), (1, 5, 10)), (Book([], []), ())):
            self.assertEqual(lot_series(book, weights, 0), [1])

    def test_against_walks_through_lots(self):
        rng = random.Random(312)
        for _ in range(60):
            book, weights = drawn_weighted(rng, rng.randint(1, 4), rng.choice([0.5, 1.0]), 3, 9)
            most = rng.randint(0, 24)
            stocks = plain_stocks(weights, most)
            expected = [len(plain_first_stocks(book, stocks[number])) for number in range(most + 1)]
            self.assertEqual(lot_series(book, weights, most), expected, (book.barters(), weights))
            self.assertEqual(lot_series(book, list(weights), most), expected)

    def test_against_the_product(self):
        rng = random.Random(313)
        for goods in list(range(1, 11)) * 3:
            book, weights = drawn_weighted(rng, goods, rng.choice([0.3, 0.6]), 2, 300)
            steps = [-sum(n * w for n, w in zip(row, weights) if n < 0) for _, row in book.barters()]
            most = rng.randint(0, 60)
            self.assertEqual(lot_series(book, weights, most), plain_product(weights, steps, most))

    def test_barters_told_otherwise(self):
        rng = random.Random(314)
        for _ in range(20):
            book, weights = drawn_weighted(rng, rng.randint(2, 6), 0.8)
            expected = lot_series(book, weights, 50)
            turned = turned_book(book, rng.sample(book.names(), rng.randint(0, len(book.names()))))
            self.assertEqual(lot_series(turned, weights, 50), expected)
            self.assertEqual(lot_series(Book(book.goods(), book.barters()[::-1]), weights, 50), expected)

    def test_all_stocks_of_a_lot_have_one_weight(self):
        rng = random.Random(315)
        for _ in range(20):
            book, weights = drawn_weighted(rng, rng.randint(1, 4), 1.0, 3, 12)
            self.assertIs(judge_weights(book, weights), True)
            stock = tuple(rng.randint(0, 3) for _ in weights)
            for other in plain_met(book, stock, bound=2000) or []:
                self.assertEqual(weight(book, other, weights), weight(book, stock, weights))

    def test_lists_are_new(self):
        book, weights = three_twos(), [4, 6, 5]
        for function, arguments in ((stock_series, [weights, 9]), (lot_series, [book, weights, 9])):
            first = function(*arguments)
            second = function(*arguments)
            self.assertIsNot(first, second)
            first.clear()
            self.assertEqual(function(*arguments), second)
        self.assertEqual(weights, [4, 6, 5])

    def test_books_at_the_limits(self):
        rng = random.Random(316)
        for _ in range(10):
            book, weights = drawn_weighted(rng, 10, 1.0, 2, 300)
            self.assertEqual(len(in_time(lot_series, book, weights, 300)), 301)
            in_time(mirror, book, weights)


class Mirrors(unittest.TestCase):
    def check(self, book, weights):
        """Two lots of numbers that add up to C or to 0, also far behind A."""
        top, divisor, both = mirror(book, weights)
        self.assertEqual(divisor, math.gcd(*weights))
        steps = [sum(n * w for n, w in zip(row, weights) if n > 0) for _, row in book.barters()]
        self.assertEqual(top, sum(steps) - sum(weights))
        self.assertEqual((both * math.prod(weights)), divisor * math.prod(steps))
        most = min(max(top, 0) + 3 * divisor, 2000)
        series = lot_series(book, weights, most)
        for number in range(-divisor - 2, most + 1):
            if top - number <= most:
                pair = [series[at] if at >= 0 else 0 for at in (number, top - number)]
                self.assertEqual(sum(pair), both if number % divisor == 0 else 0, (book.barters(), weights, number))

    def test_the_examples(self):
        self.assertEqual(mirror(three_twos(), (4, 6, 5)), (7, 1, 1))
        self.assertEqual(mirror(three_twos(), [8, 12, 10]), (14, 2, 1))
        self.assertEqual(mirror(Book(["a", "b"], [("p", (-2, 2))]), (1, 1)), (0, 1, 2))
        self.assertEqual(mirror(Book(["a"], []), (1,)), (-1, 1, 1))
        self.assertEqual(mirror(Book(["a"], []), (7,)), (-7, 7, 1))
        self.check(three_twos(), (4, 6, 5))
        self.check(Book(["a", "b"], [("p", (-2, 2))]), (1, 1))
        self.check(Book(["a"], []), (7,))

    def test_drawn_full_books(self):
        rng = random.Random(317)
        for _ in range(80):
            self.check(*drawn_weighted(rng, rng.randint(1, 6), 1.0, 3, 300, 3))

    def test_books_that_are_not_full(self):
        for book, weights in (
            (Book([], []), ()), (Book(["a", "b"], []), (1, 1)), (letters(), weights_of(letters())),
            (Book(["a", "b", "c"], [("p", (-1, 1, 0))]), (1, 1, 5)),
        ):
            self.assertIsNone(mirror(book, weights))
        rng = random.Random(318)
        for _ in range(40):
            book, weights = drawn_weighted(rng, rng.randint(2, 6), 0.5)
            if len(book.names()) + 1 < len(weights):
                self.assertIsNone(mirror(book, weights))

    def test_bad_books(self):
        rng = random.Random(319)
        books = [there_and_back(), ring(3), ring(6), drawn_book(rng, 10, 9, 0.6)]
        for book in books + [one for one in drawn_books(319, 60) if not plain_is_good(one)]:
            weights = [rng.randint(1, 300) for _ in book.goods()]
            for function, *arguments in ((lot_series, weights, 300), (lot_series, tuple(weights), 0), (mirror, weights)):
                kind, square = raised(function, book, *arguments)
                self.assertIs(kind, NotGood)
                self.assertTrue(plain_is_square(book, square))

    def test_the_mirror_of_the_weight_nought(self):
        # The weight 0 has one lot, so its mirror has one less than all.
        rng = random.Random(320)
        for _ in range(20):
            book, weights = drawn_weighted(rng, rng.randint(2, 5), 1.0)
            top, _, both = mirror(book, weights)
            if top > 0:
                self.assertEqual(lot_series(book, weights, top)[top], both - 1)


if __name__ == "__main__":
    unittest.main()
