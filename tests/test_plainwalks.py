"""plainwalks.py: [S4.5]."""

import random
import unittest

from eitherbarter.books import Book
from eitherbarter.errors import TooGreat
from eitherbarter.plainwalks import (
    cheapest_by_walks, cheapest_walk, fewest_by_walks, lot_by_walks, walk_by_walks, within,
)
from tests.helpers import (
    drawn_book, drawn_good_book, in_time, money, pair, plain_cheapest, plain_met, plain_walk, raised,
)


def endless():
    """The book of S4.5 in which each stock but (0, 0) leads to stocks without end."""
    return Book(["a", "b"], [("p", (-1, 2)), ("q", (2, -1))])


def row_of(many):
    """A book and a stock whose lot has so many stocks, one behind the other."""
    return Book(["a", "b"], [("p", (-1, 1))]), (many - 1, 0)


def box(more):
    """A book and a stock with 500 stocks within 12 deeds, and one more if asked for; its lot is the same."""
    barters = [
        ("p", (-1, 1, 0, 0, 0, 0, 0)), ("q", (0, 0, -1, 1, 0, 0, 0)), ("r", (0, 0, 0, 0, -1, 1, 0)),
    ]
    if more:
        # This can be done at the last stock of all alone, and leads to one at which nothing else can be done.
        barters.append(("s", (0, -4, 0, -9, 0, -9, 1)))
    return Book(["a", "b", "c", "d", "e", "f", "g"], barters), (2, 2, 4, 5, 4, 5, 0)


def small_cases(seed, many):
    """Drawn books, good ones and others, with a small stock each."""
    rng = random.Random(seed)
    for _ in range(many):
        goods = rng.randint(2, 5)
        if rng.random() < 0.5:
            book, _ = drawn_good_book(rng, goods, 0.9, 3)
        else:
            book = drawn_book(rng, goods, rng.randint(1, 4), 0.6, 3)
        yield rng, book, tuple(rng.randint(0, 4) for _ in range(goods))


class Within(unittest.TestCase):
    def check(self, book, stock, most):
        met = plain_met(book, stock, most, 500)
        if met is None:
            self.assertEqual(raised(within, book, stock, most), (TooGreat, None))
        else:
            expected = sorted(met.items(), key=lambda one: (one[1], one[0]))
            self.assertEqual(within(book, stock, most), expected)

    def test_the_order(self):
        self.assertEqual(within(money(), (0, 0, 2), 3), [
            ((0, 0, 2), 0), ((0, 2, 1), 1), ((0, 4, 0), 2), ((5, 1, 1), 2), ((5, 3, 0), 3), ((10, 0, 1), 3),
        ])
        self.assertEqual(within(pair(), (7, 0, 0), 0), [((7, 0, 0), 0)])
        self.assertEqual(within(pair(), (1, 0, 0), 12), [((1, 0, 0), 0)])

    def test_no_goods_and_no_barters(self):
        self.assertEqual(within(Book([], []), (), 12), [((), 0)])
        self.assertEqual(within(Book(["a"], []), (3,), 5), [((3,), 0)])

    def test_drawn_books(self):
        for rng, book, stock in small_cases(251, 80):
            self.check(book, stock, rng.randint(0, 12))

    def test_stocks_without_end(self):
        for most in range(13):
            self.check(endless(), (1, 0), most)
            self.check(endless(), (40, 50), most)
        self.assertEqual(within(endless(), (0, 0), 12), [((0, 0), 0)])

    def test_five_hundred_and_one_more(self):
        book, stock = box(False)
        self.assertEqual(len(within(book, stock, 12)), 500)
        self.check(book, stock, 12)
        book, stock = box(True)
        self.assertEqual(len(plain_met(book, stock, 12)), 501)
        self.assertEqual(raised(within, book, stock, 12), (TooGreat, None))
        self.check(book, stock, 10)

    def test_books_at_the_limits(self):
        rng = random.Random(252)
        for share in (0.2, 0.5, 1.0):
            book = drawn_book(rng, 10, 12, share, 9)
            in_time(within, book, (1000,) * 10, 12)
            in_time(within, book, (9,) * 10, 12)
            in_time(within, book, (1000,) * 10, 1)


class Lots(unittest.TestCase):
    def test_drawn_books(self):
        for _, book, stock in small_cases(253, 100):
            met = plain_met(book, stock, bound=500)
            if met is None:
                self.assertEqual(raised(lot_by_walks, book, stock), (TooGreat, None))
            else:
                self.assertEqual(lot_by_walks(book, stock), sorted(met))
                for other in list(met)[:3]:
                    self.assertEqual(lot_by_walks(book, other), sorted(met))

    def test_examples(self):
        self.assertEqual(lot_by_walks(money(), (0, 0, 1)), [(0, 0, 1), (0, 2, 0), (5, 1, 0), (10, 0, 0)])
        self.assertEqual(lot_by_walks(Book([], []), ()), [()])
        self.assertEqual(lot_by_walks(endless(), (0, 0)), [(0, 0)])
        self.assertEqual(raised(lot_by_walks, endless(), (0, 1)), (TooGreat, None))

    def test_five_hundred_and_one_more(self):
        book, stock = row_of(500)
        self.assertEqual(lot_by_walks(book, stock), [(k, 499 - k) for k in range(500)])
        for bad in (row_of(501), box(True)):
            self.assertEqual(raised(lot_by_walks, *bad), (TooGreat, None))
        self.assertEqual(len(lot_by_walks(*box(False))), 500)


class Walks(unittest.TestCase):
    def check(self, book, f, g, most, expected):
        self.assertEqual(fewest_by_walks(book, f, g, most), expected)
        script = walk_by_walks(book, f, g, most)
        if expected is None:
            self.assertIsNone(script)
        else:
            self.assertIs(type(script), list)
            self.assertEqual(len(script), expected)
            stocks = plain_walk(book, f, script)
            self.assertEqual((len(stocks), stocks[-1]), (expected + 1, g))

    def test_drawn_books(self):
        for rng, book, f in small_cases(254, 80):
            most = rng.randint(0, 6)
            met = plain_met(book, f, most, 2000)
            if met is None:
                continue
            for g in rng.sample(sorted(met), min(6, len(met))):
                self.check(book, f, g, most, met[g])
                if met[g] > 0:
                    self.check(book, f, g, met[g] - 1, None)
            near = tuple(number + rng.randint(0, 2) for number in f)
            self.check(book, f, near, most, met.get(near))

    def test_examples(self):
        self.check(money(), (0, 0, 2), (10, 2, 0), 4, 4)
        self.check(money(), (0, 0, 2), (10, 2, 0), 12, 4)
        self.check(money(), (0, 0, 2), (10, 2, 0), 3, None)
        self.check(money(), (0, 0, 2), (0, 0, 3), 12, None)
        self.check(money(), (0, 0, 2), (0, 0, 2), 0, 0)
        self.assertEqual(walk_by_walks(endless(), (1, 0), (1, 0), 12), [])
        self.check(Book([], []), (), (), 0, 0)
        self.check(Book(["a"], []), (1,), (2,), 12, None)

    def test_great_lots_raise_no_error(self):
        book, f = row_of(900)
        self.check(book, f, (887, 12), 12, 12)
        self.check(book, f, (886, 13), 12, None)
        self.check(endless(), (1, 0), (1, 3), 12, plain_met(endless(), (1, 0), 4)[(1, 3)])
        book, stock = box(True)
        self.check(book, stock, (0, 0, 0, 0, 0, 0, 1), 12, 11)
        self.check(book, stock, (0, 0, 0, 0, 0, 0, 1), 10, None)

    def test_two_thousand_stocks(self):
        book = Book(
            ["a", "b", "c", "d", "e", "f", "g", "h"],
            [("p", (-1, 1, 0, 0, 0, 0, 0, 0)), ("q", (0, 0, -1, 1, 0, 0, 0, 0)), ("r", (0, 0, 0, 0, -1, 1, 0, 0)),
             ("s", (0, 0, 0, 0, 0, 0, -1, 1))],
        )
        met = plain_met(book, (100,) * 8, 6)
        self.assertGreater(len(met), 1200)
        self.assertEqual(in_time(fewest_by_walks, book, (100,) * 8, (95, 105, 101, 99) + (100,) * 4, 6), 6)
        self.assertIsNone(in_time(walk_by_walks, book, (100,) * 8, (0,) * 8, 6))


class Cheapest(unittest.TestCase):
    def check(self, book, f, g, prices, expected):
        self.assertEqual(cheapest_by_walks(book, f, g, prices), expected)
        script = cheapest_walk(book, f, g, prices)
        if expected is None:
            self.assertIsNone(script)
        else:
            self.assertIs(type(script), list)
            stocks = plain_walk(book, f, script)
            self.assertEqual((len(stocks), stocks[-1]), (len(script) + 1, g))
            price_of = dict(zip(book.names(), prices))
            self.assertEqual(sum(price_of[name] for name, _ in script), expected)
            if f == g:
                self.assertEqual(script, [])

    def test_drawn_books(self):
        seen = 0
        for rng, book, f in small_cases(255, 120):
            met = plain_met(book, f, bound=500)
            prices = [rng.choice([0, 0, 1, 3, rng.randint(0, 1000)]) for _ in book.names()]
            if met is None:
                self.assertEqual(raised(cheapest_by_walks, book, f, f, prices), (TooGreat, None))
                self.assertEqual(raised(cheapest_walk, book, f, f, prices), (TooGreat, None))
            elif len(met) <= 120:
                least = plain_cheapest(book, f, prices)
                for g in rng.sample(sorted(met), min(8, len(met))):
                    self.check(book, f, g, prices, least[g])
                    self.check(book, f, g, tuple(prices), least[g])
                near = tuple(number + rng.randint(0, 2) for number in f)
                self.check(book, f, near, prices, least.get(near))
                seen += len(met) > 5
        self.assertGreater(seen, 10)

    def test_examples(self):
        self.check(money(), (0, 0, 2), (10, 2, 0), [3, 0], 6)
        self.check(money(), (0, 0, 2), (10, 2, 0), [0, 0], 0)
        self.check(money(), (0, 0, 2), (0, 0, 2), [3, 1], 0)
        self.check(money(), (0, 0, 2), (0, 0, 3), [3, 1], None)
        self.check(Book([], []), (), (), [], 0)
        self.check(Book(["a"], []), (1,), (2,), [], None)

    def test_a_longer_way_may_cost_less(self):
        book = Book(["a", "b", "c"], [("p", (-1, 0, 1)), ("q", (-1, 1, 0)), ("r", (0, -1, 1))])
        self.check(book, (1, 0, 0), (0, 0, 1), [7, 3, 3], 6)
        self.check(book, (1, 0, 0), (0, 0, 1), [5, 3, 3], 5)
        self.check(book, (1, 0, 0), (0, 0, 1), [0, 0, 0], 0)
        self.check(book, (1, 0, 0), (1, 0, 0), [0, 0, 0], 0)

    def test_great_lots(self):
        book, f = row_of(500)
        self.check(book, f, (0, 499), [7], 3493)
        for function in (cheapest_by_walks, cheapest_walk):
            book, f = row_of(501)
            for g in (f, (499, 1), (5, 5)):
                self.assertEqual(raised(function, book, f, g, [7]), (TooGreat, None))
            self.assertEqual(raised(function, endless(), (1, 0), (1, 0), [0, 0]), (TooGreat, None))
            self.assertEqual(raised(function, *box(True), box(True)[1], [1, 2, 3, 4]), (TooGreat, None))
            in_time(function, *box(False), (4, 0, 9, 0, 9, 0, 0), [0, 1000, 1])

    def test_scripts_that_may_go_farther_than_they_must(self):
        book, f = row_of(400)
        self.check(book, f, (200, 199), [0], 0)


if __name__ == "__main__":
    unittest.main()
