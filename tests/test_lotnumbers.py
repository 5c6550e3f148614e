"""lotnumbers.py: [S9.4]."""

import inspect
import random
import unittest

from eitherbarter.books import Book
from eitherbarter.errors import NotGood, TooGreat
from eitherbarter.lotnumbers import drawn_lot, lot_at, lot_number, lots_from, next_lot
from eitherbarter.lots import first_stock, lots_at
from eitherbarter.series import lot_series
from tests.helpers import (
    drawn_books, drawn_weighted, in_time, plain_first_stocks, plain_is_good, plain_is_square, plain_met, plain_stocks,
    raised, ring, there_and_back, three_twos,
)


def pairs():
    """The second book of S9.5."""
    return Book(["a", "b"], [("p", (-2, 2))])


class Numbers(unittest.TestCase):
    def check(self, book, weights, number, stocks):
        """All that is told of the lots of one weight, held against a plain listing of its stocks."""
        firsts = plain_first_stocks(book, stocks)
        for k in list(range(len(firsts)))[:6] + list(range(len(firsts)))[6:][-3:]:
            first = firsts[k]
            self.assertEqual(lot_at(book, weights, number, k), first)
            behind = firsts[k + 1] if k + 1 < len(firsts) else None
            for stock in sorted(plain_met(book, first))[:3]:
                self.assertEqual(lot_number(book, weights, stock), k)
                self.assertEqual(next_lot(book, weights, stock), behind)
            self.assertEqual(drawn_lot(book, weights, number, k), first)
            self.assertEqual(drawn_lot(book, weights, number, k + len(firsts) * 10 ** 58), first)
        for k in (len(firsts), len(firsts) + 1, 10 ** 59):
            self.assertEqual(raised(lot_at, book, weights, number, k), (TooGreat, None))
        self.assertEqual(lots_from(book, weights, number), firsts[:10])
        for k in (0, 1, 2, 7, len(firsts) - 1, len(firsts), len(firsts) + 1, 10 ** 59):
            if k >= 0:
                self.assertEqual(lots_from(book, weights, number, number=k), firsts[k:k + 10])
                for many in (0, 1, 3, 10, 11, 50):
                    self.assertEqual(lots_from(book, weights, number, number=k, many=many), firsts[k:k + many])
        self.assertEqual(lots_from(book, weights, number, many=50), firsts[:50])
        if not firsts:
            for k in (0, 1, 10 ** 59):
                self.assertIsNone(drawn_lot(book, weights, number, k))
        return len(firsts)

    def test_the_examples(self):
        stocks = plain_stocks((4, 6, 5), 24)
        for number in range(25):
            self.check(three_twos(), (4, 6, 5), number, stocks[number])
        self.assertEqual(lot_at(three_twos(), (4, 6, 5), 12, 0), (0, 2, 0))
        self.assertEqual(lot_number(pairs(), (1, 1), (2, 3)), 0)
        self.assertEqual(lot_number(pairs(), (1, 1), (3, 2)), 1)
        self.assertEqual(next_lot(pairs(), (1, 1), (4, 1)), (1, 4))
        self.assertIsNone(next_lot(pairs(), (1, 1), (1, 4)))
        self.assertIsNone(next_lot(pairs(), (1, 1), (0, 0)))

    def test_small_books_against_a_listing(self):
        rng = random.Random(341)
        many = []
        for _ in range(40):
            book, weights = drawn_weighted(rng, rng.randint(1, 4), rng.choice([0.3, 0.6, 1.0]), 3, 9)
            stocks = plain_stocks(weights, 16)
            for number in (0, 1, rng.randint(2, 15), 16):
                weights = rng.choice([tuple, list])(weights)
                many.append(self.check(book, weights, number, stocks[number]))
        self.assertGreater(sum(one > 10 for one in many), 10)
        self.assertGreater(sum(one == 0 for one in many), 10)

    def test_no_goods_and_no_barters(self):
        self.check(Book([], []), (), 0, [()])
        self.check(Book([], []), (), 3, [])
        self.check(Book(["a"], []), (3,), 6, [(2,)])
        self.check(Book(["a"], []), (3,), 7, [])
        self.assertIsNone(next_lot(Book([], []), (), ()))
        self.assertEqual(lot_number(Book([], []), (), ()), 0)

    def test_many_lots(self):
        book = Book(["a", "b", "c"], [])
        stocks = plain_stocks((1, 1, 10), 194)[194]
        self.assertEqual(len(stocks), 2000)
        self.assertEqual(lots_from(book, (1, 1, 10), 194, number=1960, many=50), stocks[1960:])
        self.assertEqual(in_time(lot_at, book, (1, 1, 10), 194, 1999), stocks[1999])
        self.assertEqual(in_time(lot_number, book, (1, 1, 10), stocks[1234]), 1234)
        self.assertEqual(in_time(next_lot, book, (1, 1, 10), stocks[1234]), stocks[1235])
        self.assertIsNone(next_lot(book, (1, 1, 10), stocks[1999]))
        number = 10 ** 60 - 1
        self.assertEqual(in_time(drawn_lot, book, (1, 1, 10), 194, number), stocks[number % 2000])

    def test_number_and_many_by_name_only(self):
        with self.assertRaises(TypeError):
            lots_from(pairs(), (1, 1), 5, 0)
        kinds = {name: one.kind for name, one in inspect.signature(lots_from).parameters.items()}
        self.assertEqual(kinds["number"], inspect.Parameter.KEYWORD_ONLY)
        self.assertEqual(kinds["many"], inspect.Parameter.KEYWORD_ONLY)
        self.assertEqual(lots_from(pairs(), (1, 1), 5, many=1, number=1), [(1, 4)])

    def test_lists_are_new(self):
        first = lots_from(pairs(), (1, 1), 5)
        first.clear()
        self.assertEqual(lots_from(pairs(), (1, 1), 5), [(0, 5), (1, 4)])

    def test_as_many_as_the_series_tells(self):
        rng = random.Random(342)
        for goods in range(1, 11):
            book, weights = drawn_weighted(rng, goods, 0.7, 2, 300)
            for number in (0, 12, 40):
                firsts = in_time(lots_at, book, weights, number)
                if isinstance(firsts, TooGreat):
                    continue
                many = lot_series(book, weights, number)[number]
                self.assertEqual(lots_from(book, weights, number, number=max(0, many - 3)), firsts[max(0, many - 3):])
                if many:
                    self.assertEqual(lot_at(book, weights, number, many - 1), firsts[-1])
                    self.assertEqual(in_time(lot_number, book, weights, firsts[-1]), many - 1)
                    self.assertEqual(first_stock(book, firsts[-1]), firsts[-1])
                self.assertEqual(raised(lot_at, book, weights, number, many), (TooGreat, None))


class Errors(unittest.TestCase):
    def calls(self, weights, number, stock):
        """All calls for a weight, of which one stock is told."""
        return [
            (lot_at, (weights, number, 0), {}), (lot_at, (weights, number, 10 ** 59), {}),
            (lot_number, (weights, stock), {}), (next_lot, (weights, stock), {}), (lots_from, (weights, number), {}),
            (lots_from, (weights, number), {"number": 10 ** 59, "many": 0}), (drawn_lot, (weights, number, 5), {}),
        ]

    def test_more_than_two_thousand_stocks(self):
        for book, weights, number, stock in (
            (Book(["a", "b", "c", "d"], []), (3, 3, 7, 8), 172, (0, 55, 1, 0)),
            (Book(["a", "b", "c", "d"], [("p", (-1, 1, 0, 0))]), [3, 3, 7, 8], 172, (55, 0, 1, 0)),
            (Book([f"g{j}" for j in range(10)], []), (1,) * 10, 300, (300,) + (0,) * 9),
        ):
            self.assertEqual(sum(n * w for n, w in zip(stock, weights)), number)
            for function, arguments, named in self.calls(weights, number, stock):
                found = in_time(lambda *all_of, f=function, named=named: f(*all_of, **named), book, *arguments)
                self.assertIsInstance(found, TooGreat, function)

    def test_just_two_thousand_stocks(self):
        book = Book(["a", "b", "c"], [("p", (-1, 1, 0))])
        for function, arguments, named in self.calls((1, 1, 10), 194, (194, 0, 0)):
            if arguments[2:] != (10 ** 59,):
                function(book, *arguments, **named)
        self.assertEqual(lot_number(book, (1, 1, 10), (194, 0, 0)), 19)
        self.assertEqual(lots_from(book, (1, 1, 10), 194, number=18), [(0, 184, 1), (0, 194, 0)])

    def test_bad_books_come_first(self):
        for book in [there_and_back(), ring(3), ring(9)] + [b for b in drawn_books(343, 60) if not plain_is_good(b)]:
            many = len(book.goods())
            for weights, number, stock in (((1,) * many, 300, (1,) * many), ([300] * many, 1, (0,) * many)):
                for function, arguments, named in self.calls(weights, number, stock):
                    with self.assertRaises(NotGood) as caught:
                        function(book, *arguments, **named)
                    self.assertTrue(plain_is_square(book, caught.exception.square))


if __name__ == "__main__":
    unittest.main()
