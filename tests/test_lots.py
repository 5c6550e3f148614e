"""lots.py: [S9.1], lots_at of [S9.4], and the lots in [S9.5]."""

import random
import unittest

from eitherbarter.books import Book
from eitherbarter.errors import NotGood, TooGreat
from eitherbarter.lots import first_stock, is_one_lot, lot_of, lots_at
from eitherbarter.series import lot_series
from tests.helpers import (
    drawn_account, drawn_books, drawn_good_book, drawn_weighted, in_time, least_stock, money, plain_balance,
    plain_first_stocks, plain_is_good, plain_is_square, plain_met, plain_stocks, plus, raised, ring, there_and_back,
    three, three_twos,
)


def pairs():
    """The second book of S9.5."""
    return Book(["a", "b"], [("p", (-2, 2))])


def row_of_ones(many):
    """A book in which each good is changed for the next one."""
    barters = []
    for k in range(many - 1):
        row = [0] * many
        row[k], row[k + 1] = -1, 1
        barters.append((f"n{k}", tuple(row)))
    return Book([f"g{j}" for j in range(many)], barters)


class OneLot(unittest.TestCase):
    def test_the_example(self):
        self.assertIs(is_one_lot(three_twos(), (2, 1, 0), (1, 0, 2)), True)
        self.assertIs(is_one_lot(three_twos(), (2, 1, 0), (2, 1, 1)), False)
        self.assertIs(is_one_lot(pairs(), (3, 0), (1, 2)), True)
        self.assertIs(is_one_lot(pairs(), (3, 0), (0, 3)), False)

    def test_against_walks(self):
        rng = random.Random(331)
        found = {True: 0, False: 0}
        for _ in range(120):
            book, _ = drawn_good_book(rng, rng.randint(1, 4), rng.choice([0.5, 1.0]), 3)
            f = tuple(rng.randint(0, 4) for _ in book.goods())
            met = plain_met(book, f, bound=1500)
            if met is None:
                continue
            others = [tuple(rng.randint(0, 4) for _ in f) for _ in range(6)]
            for g in others + rng.sample(sorted(met), min(4, len(met))):
                self.assertIs(is_one_lot(book, f, g), g in met)
                self.assertIs(is_one_lot(book, g, f), g in met)
                found[g in met] += 1
        self.assertGreater(min(found.values()), 100)

    def test_great_stocks(self):
        rng = random.Random(332)
        great = 10 ** 39
        self.assertIs(is_one_lot(money(), (0, 0, great), (10 * great, 0, 0)), True)
        self.assertIs(is_one_lot(money(), (0, 0, great), (10 * great + 1, 0, 0)), False)
        for _ in range(40):
            book, _ = drawn_good_book(rng, rng.randint(2, 10), 1.0, 9)
            account = tuple(10 ** 30 * number for number in drawn_account(rng, book, 20))
            f = least_stock(book, account)
            g = plus(f, plain_balance(book, account))
            self.assertIs(in_time(is_one_lot, book, f, g), True)
            self.assertIs(is_one_lot(book, g, f), True)
            self.assertIs(is_one_lot(book, f, plus(g, (1,) + (0,) * (len(g) - 1))), False)

    def test_without_goods_and_barters(self):
        self.assertIs(is_one_lot(Book([], []), (), ()), True)
        self.assertIs(is_one_lot(Book(["a"], []), (3,), (3,)), True)
        self.assertIs(is_one_lot(Book(["a"], []), (3,), (4,)), False)


class Lots(unittest.TestCase):
    def test_the_examples(self):
        self.assertEqual(lot_of(three_twos(), (2, 1, 0)), [(1, 0, 2), (2, 1, 0)])
        self.assertEqual(lot_of(three_twos(), (1, 0, 2)), [(1, 0, 2), (2, 1, 0)])
        self.assertEqual(first_stock(three_twos(), (2, 1, 0)), (1, 0, 2))
        self.assertEqual(lot_of(pairs(), (4, 0)), [(0, 4), (2, 2), (4, 0)])
        self.assertEqual(first_stock(pairs(), (4, 1)), (0, 5))
        self.assertEqual(first_stock(pairs(), (3, 0)), (1, 2))

    def test_against_walks(self):
        rng = random.Random(333)
        compared = 0
        for _ in range(80):
            book, _ = drawn_good_book(rng, rng.randint(1, 5), rng.choice([0.5, 1.0]), 3)
            stock = tuple(rng.randint(0, 4) for _ in book.goods())
            met = plain_met(book, stock, bound=1500)
            if met is not None:
                compared += 1
                self.assertEqual(lot_of(book, stock), sorted(met))
                self.assertEqual(first_stock(book, stock), min(met))
        self.assertGreater(compared, 60)

    def test_just_two_thousand_stocks_and_one_more(self):
        ones = row_of_ones(2)
        lot = lot_of(ones, (1999, 0))
        self.assertEqual(lot, [(k, 1999 - k) for k in range(2000)])
        self.assertEqual(raised(lot_of, ones, (2000, 0)), (TooGreat, None))
        self.assertEqual(raised(lot_of, ones, (1000, 1000)), (TooGreat, None))
        for stock in ((1999, 0), (1000, 999), (0, 1999)):
            self.assertEqual(first_stock(ones, stock), (0, 1999))
        # Ten goods and four of them: 715 stocks; five: 2,002.
        self.assertEqual(len(lot_of(row_of_ones(10), (4,) + (0,) * 9)), 715)
        self.assertEqual(raised(lot_of, row_of_ones(10), (1,) * 5 + (0,) * 5), (TooGreat, None))

    def test_very_great_lots(self):
        for book, stock in ((money(), (0, 0, 10 ** 39)), (row_of_ones(10), (10 ** 6,) * 10)):
            self.assertIsInstance(in_time(lot_of, book, stock), TooGreat)

    def test_lists_are_new(self):
        first = lot_of(pairs(), (4, 0))
        first.clear()
        self.assertEqual(len(lot_of(pairs(), (4, 0))), 3)
        first = lots_at(pairs(), (1, 1), 4)
        first.clear()
        self.assertEqual(lots_at(pairs(), (1, 1), 4), [(0, 4), (1, 3)])

    def test_without_goods_and_barters(self):
        self.assertEqual((lot_of(Book([], []), ()), first_stock(Book([], []), ())), ([()], ()))
        self.assertEqual(lot_of(Book(["a", "b"], []), (3, 0)), [(3, 0)])


class LotsOfOneWeight(unittest.TestCase):
    def test_the_examples(self):
        weights = (4, 6, 5)
        lots = [lots_at(three_twos(), weights, number) for number in range(13)]
        self.assertEqual([len(firsts) for firsts in lots], [1, 0, 0, 0, 1, 1, 1, 0, 1, 1, 1, 1, 1])
        self.assertEqual(lots[0], [(0, 0, 0)])
        self.assertEqual(lots[10], [(0, 0, 2)])
        self.assertEqual(lots[12], [(0, 2, 0)])
        self.assertEqual(lots_at(pairs(), (1, 1), 0), [(0, 0)])
        for number in range(1, 40):
            self.assertEqual(lots_at(pairs(), (1, 1), number), [(0, number), (1, number - 1)])

    def test_against_a_listing_and_walks(self):
        rng = random.Random(334)
        many = 0
        for _ in range(60):
            book, weights = drawn_weighted(rng, rng.randint(1, 4), rng.choice([0.5, 1.0]), 3, 9)
            stocks = plain_stocks(weights, 18)
            series = lot_series(book, weights, 18)
            for number in range(19):
                firsts = plain_first_stocks(book, stocks[number])
                self.assertEqual(lots_at(book, weights, number), firsts)
                self.assertEqual(lots_at(book, list(weights), number), firsts)
                self.assertEqual(len(firsts), series[number])
                self.assertEqual([first_stock(book, stock) for stock in firsts], firsts)
                many += len(firsts) > 1
        self.assertGreater(many, 200)

    def test_as_many_as_the_series_tells(self):
        rng = random.Random(335)
        for goods in list(range(1, 11)) * 2:
            book, weights = drawn_weighted(rng, goods, 0.7, 2, 300)
            for number in (0, 7, 30, 60):
                firsts = in_time(lots_at, book, weights, number)
                if not isinstance(firsts, TooGreat):
                    self.assertEqual(len(firsts), lot_series(book, weights, number)[number])
                    self.assertEqual(firsts, sorted(firsts))

    def test_without_goods_and_barters(self):
        self.assertEqual(lots_at(Book([], []), (), 0), [()])
        self.assertEqual(lots_at(Book([], []), [], 5), [])
        self.assertEqual(lots_at(Book(["a"], []), (3,), 6), [(2,)])
        self.assertEqual(lots_at(Book(["a"], []), (3,), 7), [])
        self.assertEqual(lots_at(Book(["a", "b"], []), (2, 1), 4), [(0, 4), (1, 2), (2, 0)])

    def test_just_two_thousand_stocks_and_one_more(self):
        for goods, weights, number, many in (
            (["a", "b", "c"], (1, 1, 10), 194, 2000), (["a", "b", "c"], (1, 2, 5), 196, 2000),
            (["a", "b", "c", "d"], (3, 3, 7, 8), 172, 2001), (["a", "b", "c", "d"], (3, 5, 5, 6), 166, 2001),
        ):
            self.assertEqual(len(plain_stocks(weights, number)[number]), many)
            barters = [("p", (weights[1], -weights[0]) + (0,) * (len(goods) - 2))]
            for book in (Book(goods, []), Book(goods, barters)):
                found = in_time(lots_at, book, weights, number)
                self.assertEqual(isinstance(found, TooGreat), many > 2000)
                if many == 2000:
                    self.assertEqual(len(found), lot_series(book, weights, number)[number])
                    self.assertIsInstance(in_time(lots_at, book, weights, number + 10), TooGreat)

    def test_very_many_stocks(self):
        for weights in ((1,) * 10, tuple(range(1, 11)), (1, 300, 299, 298, 1, 1, 1, 1, 1, 1)):
            book = Book([f"g{j}" for j in range(10)], [])
            self.assertIsInstance(in_time(lots_at, book, weights, 300), TooGreat)


class BadBooks(unittest.TestCase):
    def test_not_good_comes_first(self):
        rng = random.Random(336)
        for book in [there_and_back(), ring(3), ring(9)] + [b for b in drawn_books(336, 60) if not plain_is_good(b)]:
            many = len(book.goods())
            weights = [rng.randint(1, 3) for _ in range(many)]
            for function, *arguments in (
                (is_one_lot, (1,) * many, (2,) * many), (lot_of, (10 ** 6,) * many), (first_stock, (1,) * many),
                (lots_at, weights, 300), (lots_at, weights, 0),
            ):
                kind, square = raised(function, book, *arguments)
                self.assertIs(kind, NotGood)
                self.assertTrue(plain_is_square(book, square))

    def test_good_books_raise_nothing(self):
        self.assertIs(is_one_lot(three(), (7, 0, 0), (1, 0, 1)), True)


if __name__ == "__main__":
    unittest.main()
