"""deeds.py: [S4.1], [S4.2] and [S4.4]."""

import itertools
import random
import unittest

from eitherbarter.books import Book
from eitherbarter.deeds import all_deeds, deed_back, done, is_deed, is_idle
from eitherbarter.errors import BadDeed
from tests.helpers import anything, drawn_books, pair, plain_deeds, plain_step, plus, raised


class Deeds(unittest.TestCase):
    def check(self, book, stock):
        """All that is told of the deeds at a stock."""
        can = []
        for deed in plain_deeds(book):
            behind = plain_step(book, stock, deed)
            self.assertIs(is_deed(book, stock, deed), behind is not None)
            if behind is None:
                self.assertEqual(raised(done, book, stock, deed), (BadDeed, 0))
                self.assertEqual(raised(deed_back, book, stock, deed), (BadDeed, 0))
            else:
                can.append(deed)
                back = deed_back(book, stock, deed)
                self.assertEqual(done(book, stock, deed), behind)
                self.assertIs(type(done(book, stock, deed)), tuple)
                self.assertEqual(back, (deed[0], -deed[1]))
                self.assertEqual(done(book, behind, back), stock)
                self.assertEqual(deed_back(book, behind, back), deed)
        self.assertEqual(all_deeds(book, stock), can)
        self.assertIs(is_idle(book, stock), not can)

    def test_the_book_of_the_document(self):
        book = pair()
        self.assertEqual(all_deeds(book, (7, 0, 0)), [("p", 1)])
        self.assertEqual(done(book, (7, 0, 0), ("p", 1)), (5, 1, 0))
        self.assertEqual(all_deeds(book, (5, 1, 0)), [("p", 1), ("p", -1)])
        self.assertEqual(deed_back(book, (7, 0, 0), ("p", 1)), ("p", -1))
        self.assertIs(is_idle(book, (1, 0, 0)), True)
        self.assertIs(is_idle(book, (1, 2, 1)), False)
        self.assertEqual(all_deeds(book, (1, 2, 1)), [("p", -1)])
        self.assertIs(is_deed(book, (1, 2, 1), ("q", 1)), False)
        self.assertIs(is_deed(book, (1, 2, 1), ("q", -1)), False)

    def test_all_small_stocks(self):
        for stock in itertools.product(range(5), repeat=3):
            self.check(pair(), stock)

    def test_drawn_books(self):
        rng = random.Random(231)
        for book in drawn_books(231, 120):
            for most in (2, 9, 10 ** 39):
                self.check(book, tuple(rng.randint(0, most) for _ in book.goods()))

    def test_just_enough(self):
        book = Book(["a", "b", "c"], [("m", (-3, -4, 5))])
        self.assertEqual(all_deeds(book, (3, 4, 0)), [("m", 1)])
        self.assertEqual(all_deeds(book, (2, 4, 0)), [])
        self.assertEqual(all_deeds(book, (3, 3, 4)), [])
        self.assertEqual(all_deeds(book, (0, 0, 5)), [("m", -1)])

    def test_two_barters_with_the_same_row(self):
        book = Book(["a", "b"], [("z", (-1, 1)), ("y", (-1, 1))])
        self.assertEqual(all_deeds(book, (1, 1)), [("z", 1), ("z", -1), ("y", 1), ("y", -1)])
        self.assertEqual(done(book, (1, 1), ("z", 1)), done(book, (1, 1), ("y", 1)))

    def test_no_goods_and_no_barters(self):
        self.assertEqual(all_deeds(Book([], []), ()), [])
        self.assertIs(is_idle(Book([], []), ()), True)
        self.assertEqual(all_deeds(Book(["a"], []), (5,)), [])
        self.assertIs(is_idle(Book(["a"], []), (5,)), True)
        self.assertEqual(raised(done, Book([], []), (), ("p", 1)), (BadDeed, 0))

    def test_goods_beside_never_hinder(self):
        rng = random.Random(232)
        for book in drawn_books(232, 60):
            stock = tuple(rng.randint(0, 9) for _ in book.goods())
            more = tuple(rng.randint(0, 3) for _ in stock)
            for deed in all_deeds(book, stock):
                self.assertEqual(done(book, plus(stock, more), deed), plus(done(book, stock, deed), more))

    def test_what_is_no_deed(self):
        stock = (9, 9, 9)
        for value in (
            ("p", 0), ("p", 2), ("p", -2), ("p", True), ("p", False), ("p", None), ("p", "1"), ("p", (1,)), ("p", [1]),
            ("a", 1), ("nothing", 1), (None, 1), (1, "p"), (("p",), 1), (["p"], 1), ({"p": 1}, 1), ("p",), ("p", 1, 1),
            ["p", 1], {"p": 1}, "p", "p1", (), None, 1, (("p", 1),), ("P", 1), ("p", 10 ** 39), ((), 1), ([], -1),
        ):
            self.assertIs(is_deed(pair(), stock, value), False, value)
            self.assertEqual(raised(done, pair(), stock, value), (BadDeed, 0))
            self.assertEqual(raised(deed_back, pair(), stock, value), (BadDeed, 0))

    def test_values_of_all_kinds(self):
        stock = (9, 9, 9)
        for value in anything():
            way = type(value) is int and value in (1, -1)
            for deed, expected in ((value, False), (("p", value), way), ((value, 1), False), ((value, value), False)):
                self.assertIs(is_deed(pair(), stock, deed), expected, deed)
                self.assertEqual(raised(done, pair(), stock, deed), None if expected else (BadDeed, 0))
                self.assertEqual(raised(deed_back, pair(), stock, deed), None if expected else (BadDeed, 0))
            self.assertIs(is_deed(Book([], []), (), value), False)

    def test_a_good_and_a_name_may_be_the_same_word(self):
        book = Book(["p", "q"], [("q", (-1, 2))])
        self.assertIs(is_deed(book, (1, 0), ("q", 1)), True)
        self.assertIs(is_deed(book, (1, 0), ("p", 1)), False)


if __name__ == "__main__":
    unittest.main()
