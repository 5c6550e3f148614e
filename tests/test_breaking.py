"""breaking.py: [S8.1] and [S8.2], and the break in [S8.10]."""

import random
import unittest

from eitherbarter.books import Book, turned_book
from eitherbarter.breaking import breaking, judge_breaking
from eitherbarter.carrying import run_of
from eitherbarter.squares import all_squares, square_of
from tests.helpers import (
    anything, asked_deeds, dependent, drawn_book, drawn_books, drawn_good_book, in_time, letters, money, nested,
    plain_balance, plain_is_good, plain_is_square, plain_step, plus, ring, there_and_back, three,
)


def twice():
    """The bad book of S8.10."""
    return Book(["a", "b"], [("p", (-2, 1)), ("q", (-1, 1))])


BREAK = ((("p", "q"), ("a", "b")), (0, 0), (1, 1), (-2, 3))


def wide():
    """A bad book with goods and barters beside its only square: p and q with a and b."""
    return Book(["a", "b", "c", "d"], [("p", (-2, 1, 0, 0)), ("q", (-1, 1, 3, 0)), ("r", (0, 0, -1, 4))])


WIDE = ((("p", "q"), ("a", "b")), (0, 0, 0, 0), (1, 1, 9, 0), (-2, 3, 0))


def plain_is_break(book, value):
    """Whether a tuple (square, f, g, account) of tuples of words and integers is a break."""
    square, f, g, account = value
    if not plain_is_square(book, square):
        return False
    inside = [name in square[0] for name in book.names()]
    if not any(account) or any(number and not within for number, within in zip(account, inside)):
        return False
    if min(f) < 0 or min(g) < 0 or plus(f, plain_balance(book, account)) != g:
        return False
    return all(f[book.goods().index(good)] == 0 for good in square[1])


class Breaks(unittest.TestCase):
    def check(self, book):
        """The break of a bad book, which is one, and shows an account of which nothing can be the first."""
        value = breaking(book)
        self.assertIs(type(value), tuple)
        self.assertTrue(plain_is_break(book, value), (book.barters(), value))
        self.assertIs(judge_breaking(book, value), True)
        square, f, g, account = value
        for deed in set(asked_deeds(book, account)):
            self.assertIsNone(plain_step(book, f, deed))
        self.assertEqual(run_of(book, f, account)[:2], ("stuck", []))
        return value

    def test_the_example(self):
        self.assertIs(judge_breaking(twice(), BREAK), True)
        self.check(twice())

    def test_a_break_exactly_for_bad_books(self):
        good, bad = 0, 0
        for book in drawn_books(281, 160) + [ring(2), ring(4), ring(10), dependent(), there_and_back(), wide()]:
            if plain_is_good(book):
                good += 1
                self.assertIsNone(breaking(book))
            else:
                bad += 1
                self.check(book)
        self.assertGreater(min(good, bad), 50)

    def test_good_books_have_none(self):
        rng = random.Random(282)
        for book in [Book([], []), Book(["a"], []), three(), money(), letters()]:
            self.assertIsNone(breaking(book))
        for goods in range(2, 11):
            self.assertIsNone(breaking(drawn_good_book(rng, goods, 1.0, 99)[0]))

    def test_rows_that_add_up_to_noughts_and_rows_that_do_not(self):
        # At the goods of the square these add up to 0 alone,
        _, f, g, account = self.check(Book(["a", "b"], [("p", (-2, 3)), ("q", (4, -6))]))
        self.assertEqual((f, g), ((0, 0), (0, 0)))
        # these to one and the same number above 0,
        _, f, g, account = self.check(Book(["a", "b"], [("p", (-2, 3)), ("q", (3, -2))]))
        self.assertTrue(g[0] == g[1] > 0)
        # and these, too, where both take what is not of the square.
        _, f, g, _ = self.check(Book(["a", "b", "c"], [("p", (-2, 3, -5)), ("q", (3, -2, -1))]))
        self.assertTrue(f[2] > 0 and g[0] == g[1] > 0)

    def test_the_goods_beside_and_the_barters_beside(self):
        square, f, g, account = self.check(wide())
        self.assertEqual(sorted(square[0]), ["p", "q"])
        self.assertEqual(account[2], 0)
        self.assertEqual(f[:2], (0, 0))

    def test_books_at_the_limits(self):
        rng = random.Random(283)
        for share in (0.3, 0.6, 1.0) * 4:
            book = drawn_book(rng, 10, 12, share, 99)
            value = in_time(breaking, book)
            if value is not None:
                self.assertTrue(plain_is_break(book, value))
                self.assertIs(in_time(judge_breaking, book, value), True)


class JudgedBreaks(unittest.TestCase):
    def no(self, value, book=None):
        self.assertIs(judge_breaking(wide() if book is None else book, value), False, value)

    def yes(self, value, book=None):
        self.assertIs(judge_breaking(wide() if book is None else book, value), True, value)

    def test_a_square_told_in_another_sequence(self):
        for names in (("p", "q"), ("q", "p")):
            for goods in (("a", "b"), ("b", "a")):
                self.yes(((names, goods),) + WIDE[1:])

    def test_multiplied_with_more_of_other_goods_and_with_equal_stocks(self):
        square = WIDE[0]
        for many in (1, 2, 7, 10 ** 30):
            self.yes((square, (0, 0, 0, 0), (many, many, 9 * many, 0), (-2 * many, 3 * many, 0)))
        self.yes((square, (0, 0, 5, 10 ** 39), (1, 1, 14, 10 ** 39), (-2, 3, 0)))
        idle = Book(["a", "b"], [("p", (-2, 3)), ("q", (4, -6))])
        for many in (1, -1, 3, -10 ** 30):
            self.yes(((("p", "q"), ("a", "b")), (0, 0), (0, 0), (2 * many, many)), idle)
        self.no(((("p", "q"), ("a", "b")), (0, 0), (0, 0), (0, 0)), idle)

    def test_each_part_otherwise(self):
        square, f, g, account = WIDE
        self.yes(WIDE)
        self.no((square, (1, 0, 0, 0), (2, 1, 9, 0), account))
        self.no((square, (0, 3, 0, 0), (1, 4, 9, 0), account))
        self.no((square, (0, 0, 0, -1), (1, 1, 9, -1), account))
        self.no((square, f, (1, 1, 9, 1), account))
        self.no((square, f, g, (2, -3, 0)))
        self.no((square, f, g, (-2, 3, 1)))
        self.no((square, f, (1, 1, 8, 4), (-2, 3, 1)))
        self.no((square, f, f, (0, 0, 0)))
        self.no((square, (0, 0, 2, 0), (0, 0, 1, 4), (0, 0, 1)))
        self.no((square, f, (2, -1, 0, 0), (-1, 0, 0)))
        self.no((square, f, g))
        self.no((square, f, g, account, ()))
        self.no((square, f, g, (-2, 3)))
        self.no((square, (0, 0, 0), (1, 1, 9), account))
        for wrong in (
            (("p",), ("a",)), (("p", "p"), ("a", "b")), (("p", "q"), ("a", "c")), (("q", "r"), ("c", "a")),
            (("p", "q"), ("a", "b", "c")), (("p", "q", "r"), ("a", "b", "c")), (("a", "b"), ("p", "q")), (), "pq",
        ):
            self.no((wrong, f, g, account))

    def test_any_square_of_the_book_will_do(self):
        rng = random.Random(284)
        found = 0
        for _ in range(40):
            book = drawn_book(rng, 4, 4, 0.7, 3)
            for square in all_squares(book):
                for _ in range(6):
                    account = tuple(rng.randint(-3, 3) if name in square[0] else 0 for name in book.names())
                    row = plain_balance(book, account)
                    f = tuple(
                        0 if good in square[1] else max(0, -n) + rng.randint(0, 1) for good, n in zip(book.goods(), row)
                    )
                    value = (square, f, plus(f, row), account)
                    self.assertIs(judge_breaking(book, value), plain_is_break(book, value), value)
                    found += plain_is_break(book, value)
        self.assertGreater(found, 50)

    def test_lists_in_place_of_tuples(self):
        for k, part in enumerate(WIDE):
            self.no(WIDE[:k] + (list(part),) + WIDE[k + 1:])
        self.no(list(WIDE))
        self.no(((["p", "q"], ("a", "b")),) + WIDE[1:])
        self.no(((("p", "q"), ["a", "b"]),) + WIDE[1:])

    def test_values_of_all_kinds(self):
        for value in [*anything(), nested(40, "a"), wide()]:
            self.no(value)
            for k in range(4):
                self.no(WIDE[:k] + (value,) + WIDE[k + 1:])
            if type(value) is not int:
                self.no((WIDE[0], (0, 0, 0, value)) + WIDE[2:])
                self.no(WIDE[:2] + ((1, 1, 9, value), WIDE[3]))
                self.no(WIDE[:3] + ((-2, 3, value),))
            if value != 1:
                self.no((((value, "q"), ("a", "b")),) + WIDE[1:])
                self.no(((("p", "q"), ("a", value)),) + WIDE[1:])
        self.no((WIDE[0], (0, 0, 0, False)) + WIDE[2:])
        self.no(WIDE[:2] + ((1, True, 9, 0), WIDE[3]))
        self.no(WIDE[:3] + ((-2, 3, False),))

    def test_good_books_have_no_breaks(self):
        for value in [*anything(), BREAK, WIDE]:
            self.no(value, three())
            self.no(value, Book([], []))
        self.no(((("p", "q"), ("a", "b")), (0, 0, 0), (0, 0, 0), (0, 0)), three())

    def test_a_break_of_one_book_for_another_one(self):
        value = breaking(wide())
        turned = turned_book(wide(), ["p"])
        self.no(value, turned)
        self.yes(value[:3] + ((-value[3][0],) + value[3][1:],), turned)
        self.assertEqual(square_of(turned), square_of(wide()))


if __name__ == "__main__":
    unittest.main()
