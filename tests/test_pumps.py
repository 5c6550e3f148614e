"""pumps.py: [S7.1] to [S7.4] and [S7.6], as far as they tell pumps, gains and papers."""

import random
import unittest

from eitherbarter.books import Book, joined_books
from eitherbarter.errors import UnknownName
from eitherbarter.pumps import (
    good_paper, great_pump, judge_good_paper, judge_pump, kept_goods, least_gains, pump_of, pumped_goods,
)
from tests.helpers import (
    anything, coins, dependent, drawn_book, drawn_good_book, in_time, letters, money, plain_balance, plain_kernel,
    plain_least, raised, ring, there_and_back, three,
)
from tests.test_weights import crate, growing, loose, plain_is_even, rows_of, weight_books


def twice():
    """The book of the barters u and v of S7.6."""
    return Book(["a", "b"], [("u", (-1, 2)), ("v", (2, -1))])


def plain_gains(book):
    """The least gains: what is even by all rows by which the barters are even."""
    many = len(book.goods())
    return plain_least(plain_kernel(rows_of(book), many), many)


def is_pump(book, account):
    """Whether nothing becomes less by an account, and something more."""
    row = plain_balance(book, account)
    return any(row) and min(row) >= 0


class Pumps(unittest.TestCase):
    def check(self, book):
        """All that is told of the goods of a book."""
        many = len(book.goods())
        gains = plain_gains(book)
        self.assertEqual(least_gains(book), gains)
        keepers = plain_least(rows_of(book), many)
        kept = [good for j, good in enumerate(book.goods()) if any(row[j] for row in keepers)]
        pumped = [good for j, good in enumerate(book.goods()) if any(row[j] for row in gains)]
        self.assertEqual(kept_goods(book), kept)
        self.assertEqual(pumped_goods(book), pumped)
        self.assertEqual(sorted(kept + pumped), sorted(book.goods()))
        if pumped:
            for account in (pump_of(book), great_pump(book)):
                self.assertIs(type(account), tuple)
                self.assertTrue(is_pump(book, account), account)
                self.assertIs(judge_pump(book, account), True)
            row = plain_balance(book, great_pump(book))
            self.assertEqual([good for good, number in zip(book.goods(), row) if number], pumped)
        else:
            self.assertIsNone(pump_of(book))
            self.assertIsNone(great_pump(book))
        for good in book.goods():
            self.check_paper(book, good, "kept" if good in kept else "pumped")
        return pumped

    def check_paper(self, book, good, word):
        j = book.goods().index(good)
        paper = good_paper(book, good)
        self.assertEqual((type(paper), len(paper), paper[0]), (tuple, 2, word))
        if word == "kept":
            self.assertTrue(plain_is_even(book, paper[1]) and min(paper[1]) >= 0 < paper[1][j])
        else:
            self.assertTrue(is_pump(book, paper[1]) and plain_balance(book, paper[1])[j] > 0)
        self.assertIs(judge_good_paper(book, good, paper), True)
        self.assertIs(judge_good_paper(book, good, list(paper)), False)
        other = "pumped" if word == "kept" else "kept"
        self.assertIs(judge_good_paper(book, good, (other, paper[1])), False)

    def test_the_examples(self):
        self.assertEqual(self.check(twice()), ["a", "b"])
        self.assertEqual(least_gains(twice()), [(0, 1), (1, 0)])
        self.assertIs(judge_good_paper(twice(), "b", ("pumped", (2, 1))), True)
        self.assertIs(judge_good_paper(twice(), "a", ("pumped", (1, 2))), True)
        self.assertIs(judge_good_paper(twice(), "a", ("pumped", (2, 1))), False)
        self.assertIs(judge_good_paper(twice(), "a", ("pumped", (1, 1))), True)
        self.assertEqual(self.check(growing()), ["a", "b", "c"])
        self.assertIs(judge_good_paper(growing(), "c", ("pumped", (2, 4, 3))), True)
        self.assertIs(judge_pump(growing(), (2, 4, 3)), True)
        self.assertEqual(good_paper(growing(), "d"), ("kept", (0, 0, 0, 1)))
        for book in (three(), loose(), crate(), crate(True), money(), coins(), letters(), dependent()):
            self.assertEqual(self.check(book), [])
        self.assertEqual(self.check(there_and_back()), [])

    def test_no_goods_and_no_barters(self):
        for book in (Book([], []), Book(["a"], []), Book(["a", "b", "c"], [])):
            self.assertEqual(self.check(book), [])
            self.assertEqual(least_gains(book), [])
            self.assertEqual(kept_goods(book), book.goods())
        self.assertEqual(good_paper(Book(["a", "b"], []), "b"), ("kept", (0, 1)))

    def test_drawn_books(self):
        told = [len(self.check(book)) for book in weight_books(321)]
        self.assertGreater(sum(1 for number in told if number == 0), 20)
        self.assertGreater(sum(1 for number in told if number > 1), 15)

    def test_some_kept_and_some_pumped(self):
        rng = random.Random(322)
        for _ in range(15):
            good, _ = drawn_good_book(rng, 3)
            book = joined_books(good, twice() if rng.random() < 0.5 else growing())
            if rng.random() < 0.5:
                row = [rng.randint(0, 2) for _ in book.goods()]
                row[rng.randrange(3)] = -1
                row[-1] = 1
                book = Book(book.goods(), [*book.barters(), ("more", tuple(row))])
            self.check(book)

    def test_good_books_have_no_pump(self):
        rng = random.Random(323)
        for _ in range(30):
            book, _ = drawn_good_book(rng, rng.randint(1, 7))
            self.assertEqual(self.check(book), [])
            account = tuple(rng.randint(-3, 3) for _ in book.names())
            self.assertIs(judge_pump(book, account), False)

    def test_pumps_turned_from_what_is_told(self):
        # A book whose only pump does both barters back.
        book = Book(["a", "b"], [("p", (2, -1)), ("q", (-1, 1))])
        self.check(book)
        book = Book(["a", "b"], [("p", (-2, 1)), ("q", (1, -1))])
        self.check(book)
        self.assertIs(judge_pump(book, (1, 1)), False)
        self.assertIs(judge_pump(book, (-1, -1)), True)

    def test_judged_pumps(self):
        for value in ((2, 1), (1, 2), (1, 1), (4, 2), (3, 4)):
            self.assertIs(judge_pump(twice(), value), True, value)
        for value in (
            (0, 0), (1, 0), (3, 1), (-1, -1), (2,), (2, 1, 0), [2, 1], (2, True), (True, True), None, "ab", (2, None),
            (), (2, "1"), ((2, 1),), (2, (1,)),
        ):
            self.assertIs(judge_pump(twice(), value), False, value)
        self.assertIs(judge_pump(ring(3), (1, 1, 1)), False)
        self.assertIs(judge_pump(ring(3), (0, 0, 0)), False)
        self.assertIs(judge_pump(Book([], []), ()), False)
        self.assertIs(judge_pump(Book(["a"], []), ()), False)
        great = 10 ** 40 - 1
        self.assertIs(judge_pump(twice(), (great, great)), True)
        self.assertIs(judge_pump(twice(), (2 * great + 1, great)), False)

    def test_judged_papers(self):
        for good, value, expected in (
            ("a", ("kept", (1, 2, 6)), True), ("c", ("kept", (1, 2, 6)), True), ("a", ("kept", (2, 4, 12)), False),
            ("a", ("kept", [1, 2, 6]), False), ("a", ["kept", (1, 2, 6)], False),
            ("a", ("kept", (1, 2, 6), None), False),
            ("a", ("pumped", (1, 2, 6)), False), ("a", ("pumped", (1, 2)), False), ("a", ("pumped", (0, 0)), False),
            ("a", ("kept",), False), ("a", "kept", False), ("a", None, False), ("a", ("kept", None), False),
            ("a", ("pumped", None), False), ("a", ((1, 2, 6), "kept"), False), ("a", ("kept", (True, 2, 6)), False),
            ("a", ("Kept", (1, 2, 6)), False), ("a", (None, (1, 2, 6)), False), ("a", (), False),
        ):
            self.assertIs(judge_good_paper(three(), good, value), expected, value)
        for good, value, expected in (
            ("a", ("kept", (3, 0, 1)), True), ("b", ("kept", (3, 0, 1)), False), ("b", ("kept", (0, 3, 2)), True),
            ("b", ("kept", (1, 1, 1)), True),
        ):
            self.assertIs(judge_good_paper(crate(), good, value), expected, value)

    def test_unknown_goods(self):
        for value in [*anything(), "p", "q"]:
            for paper in (None, ("kept", (1, 2, 6))):
                self.assertEqual(raised(good_paper, three(), value), (UnknownName, value))
                self.assertEqual(raised(judge_good_paper, three(), value, paper), (UnknownName, value))
        self.assertEqual(raised(good_paper, Book([], []), "a"), (UnknownName, "a"))

    def test_values_of_all_kinds(self):
        for value in anything():
            for book in (three(), twice(), Book([], [])):
                self.assertIs(judge_pump(book, value), False)
            self.assertIs(judge_pump(twice(), (1, value)), type(value) is int and value in (1, 2))
            for paper in (value, ("kept", value), ("pumped", value), (value, (1, 2, 6)), (value, value)):
                self.assertIs(judge_good_paper(three(), "a", paper), False)
                self.assertIs(judge_good_paper(twice(), "a", paper), False)

    def test_books_at_the_limits(self):
        rng = random.Random(324)
        for barters in (1, 2, 4, 5, 6, 8, 9, 12):
            for share in (0.3, 1.0):
                book = drawn_book(rng, 10, barters, share, 10 ** 12 - 1)
                gains = in_time(least_gains, book)
                account = in_time(great_pump, book)
                if gains:
                    self.assertTrue(is_pump(book, account))
                    self.assertIs(in_time(judge_pump, book, account), True)
                for function in (pump_of, kept_goods, pumped_goods):
                    in_time(function, book)
                for good in book.goods():
                    self.assertIs(in_time(judge_good_paper, book, good, in_time(good_paper, book, good)), True)


if __name__ == "__main__":
    unittest.main()
