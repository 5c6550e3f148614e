"""mirrors.py: [S9.3], and the mirror in [S9.5]."""

import itertools
import random
import unittest

from eitherbarter.books import Book
from eitherbarter.errors import NotGood
from eitherbarter.mirrors import account_to_stock, judge_mirror_paper, mirror_paper, mirror_row
from eitherbarter.series import lot_series, mirror
from eitherbarter.weights import weight, weights_of
from tests.helpers import (
    anything, drawn_books, drawn_good_book, in_time, letters, money, nested, plain_balance, plain_is_good,
    plain_is_square, plus, raised, ring, there_and_back, three, three_twos,
)


def leads(book, row, account):
    """Whether a tuple of integers is an account by which a row becomes a stock."""
    return min(plus(row, plain_balance(book, account)), default=0) >= 0


def plain_account(book, row, most):
    """An account with numbers of at most so much in amount by which a row becomes a stock, or None."""
    for account in itertools.product(range(-most, most + 1), repeat=len(book.names())):
        if leads(book, row, account):
            return account
    return None


def stretched(rng, book, many):
    """The book with each row multiplied by one of some numbers."""
    barters = []
    for name, row in book.barters():
        factor = rng.choice(many)
        barters.append((name, tuple(factor * number for number in row)))
    return Book(book.goods(), barters)


class AccountsToStocks(unittest.TestCase):
    def check(self, book, row):
        """The account to a stock, if there is one; returns whether there is."""
        account = in_time(account_to_stock, book, row)
        if account is not None:
            self.assertIs(type(account), tuple)
            self.assertEqual(len(account), len(book.names()))
            self.assertTrue(leads(book, row, account), (book.barters(), row))
        return account is not None

    def test_the_example(self):
        book = three_twos()
        self.assertIsNone(account_to_stock(book, (1, -1, 1)))
        self.assertTrue(self.check(book, (2, 1, -2)))
        self.assertTrue(leads(book, (2, 1, -2), (0, 1)))

    def test_stocks_are_led_to_themselves(self):
        for book, row in ((three(), (0, 0, 0)), (money(), (60, 0, 1)), (Book([], []), ()), (Book(["a"], []), (5,))):
            self.assertTrue(self.check(book, row))
        self.assertEqual(account_to_stock(Book([], []), ()), ())

    def test_without_barters(self):
        self.assertIsNone(account_to_stock(Book(["a"], []), (-1,)))
        self.assertEqual(account_to_stock(Book(["a"], []), (0,)), ())
        self.assertIsNone(account_to_stock(Book(["a", "b"], []), (60, -60)))

    def test_against_all_small_accounts(self):
        rng = random.Random(321)
        found = {True: 0, False: 0}
        for _ in range(150):
            book, _ = drawn_good_book(rng, rng.randint(1, 4), rng.choice([0.5, 1.0]), rng.choice([1, 2, 3]))
            row = tuple(rng.randint(-6, 6) for _ in book.goods())
            some = self.check(book, row)
            found[some] += 1
            if not some:
                self.assertIsNone(plain_account(book, row, 6 if len(book.names()) < 3 else 4))
        self.assertGreater(min(found.values()), 40)

    def test_two_goods_against_all_multiples(self):
        rng = random.Random(322)
        for _ in range(200):
            book = Book(["a", "b"], [("p", (rng.randint(1, 40), -rng.randint(1, 40)))])
            for _ in range(5):
                row = (rng.randint(-60, 60), rng.randint(-60, 60))
                self.assertIs(self.check(book, row), plain_account(book, row, 61) is not None)

    def test_books_that_are_not_full(self):
        # By pieces: all goods of each one must become a stock by its own barters.
        rng = random.Random(323)
        for _ in range(60):
            one, _ = drawn_good_book(rng, 3, 1.0, 5)
            other, _ = drawn_good_book(rng, 3, 1.0, 5)
            barters = [(name, row + (0, 0, 0)) for name, row in one.barters()]
            barters += [(f"m{k}", (0, 0, 0) + row) for k, (_, row) in enumerate(other.barters())]
            book = Book(["a", "b", "c", "d", "e", "f"], barters)
            row = tuple(rng.randint(-20, 20) for _ in range(6))
            both = [account_to_stock(one, row[:3]), account_to_stock(other, row[3:])]
            self.assertIs(self.check(book, row), None not in both)
        two = Book(["a", "b"], [])
        self.assertFalse(self.check(two, (1, -1)))
        self.assertFalse(self.check(two, (-2, 0)))

    def test_weights_and_lots_tell_the_same(self):
        # A class of a weight has a stock for as many classes as there are lots of this weight.
        book, weights = three_twos(), (4, 6, 5)
        series = lot_series(book, weights, 60)
        for row in itertools.product(range(-4, 5), repeat=3):
            number = weight(book, row, weights)
            self.assertIs(self.check(book, row), number >= 0 and series[number] == 1)

    def test_barters_that_are_multiples(self):
        rng = random.Random(324)
        for _ in range(60):
            book, _ = drawn_good_book(rng, rng.randint(2, 6), rng.choice([0.7, 1.0]), 3)
            book = stretched(rng, book, [1, 1, 2, 6, 12, 60, 99])
            self.check(book, tuple(rng.choice([0, rng.randint(-60, 60)]) for _ in book.goods()))

    def test_books_at_the_limits(self):
        rng = random.Random(325)
        for most in (2, 9, 99, 10 ** 12, 10 ** 39) * 8:
            book, _ = drawn_good_book(rng, 6, rng.choice([0.7, 1.0]), most)
            for _ in range(3):
                self.check(book, tuple(rng.randint(-60, 60) for _ in range(6)))
            self.check(stretched(rng, book, [1, 60, 10 ** 20]), tuple(rng.choice([-60, 60]) for _ in range(6)))


class MirrorRows(unittest.TestCase):
    def test_examples(self):
        self.assertEqual(mirror_row(three_twos()), (3, 0, -1))
        self.assertEqual(mirror_row(Book(["a"], [])), (-1,))
        self.assertEqual(mirror_row(Book(["a", "b"], [("p", (-2, 2))])), (1, -1))
        self.assertEqual(mirror_row(Book(["a", "b"], [("p", (2, -2))])), (-1, 1))
        self.assertEqual(mirror_row(money()), (-1, 0, 0))

    def test_books_that_are_not_full(self):
        for book in (Book([], []), Book(["a", "b"], []), letters()):
            self.assertIsNone(mirror_row(book))

    def test_drawn_books(self):
        rng = random.Random(326)
        for _ in range(60):
            book, _ = drawn_good_book(rng, rng.randint(1, 6), rng.choice([0.8, 1.0]), 9)
            row = mirror_row(book)
            if len(book.names()) + 1 < len(book.goods()):
                self.assertIsNone(row)
                continue
            taken = [sum(-r[j] for _, r in book.barters() if r[j] < 0) for j in range(len(book.goods()))]
            self.assertEqual(row, tuple(number - 1 for number in taken))
            weights = weights_of(book)
            self.assertEqual(weight(book, row, weights), mirror(book, weights)[0])


class MirrorPapers(unittest.TestCase):
    def check(self, book, row):
        """Just one of a row and its mirror becomes a stock, and its paper is right, the other one never."""
        mirrored = plus(mirror_row(book), row, -1)
        here = account_to_stock(book, row)
        there = account_to_stock(book, mirrored)
        self.assertTrue((here is None) != (there is None), (book.barters(), row))
        paper = mirror_paper(book, row)
        self.assertIs(type(paper), tuple)
        word, account = paper
        self.assertEqual(word, "there" if here is None else "here")
        self.assertTrue(leads(book, row if word == "here" else mirrored, account))
        self.assertIs(judge_mirror_paper(book, row, paper), True)
        other = "here" if word == "there" else "there"
        for wrong in (
            (other, account), (word, list(account)), [word, account], (word,), (word, account, account), account,
            (word, account + (0,)), (account, word), word,
        ):
            self.assertIs(judge_mirror_paper(book, row, wrong), False, wrong)
        self.check_near(book, row, word, account)
        return word

    def check_near(self, book, row, word, account):
        """Accounts with a number that is one more or one less, and other small ones."""
        start = row if word == "here" else plus(mirror_row(book), row, -1)
        for k in range(len(account)):
            for more in (-1, 1):
                near = account[:k] + (account[k] + more,) + account[k + 1:]
                self.assertIs(judge_mirror_paper(book, row, (word, near)), leads(book, start, near))
            for value in (True, None, "a", (1,)):
                wrong = account[:k] + (value,) + account[k + 1:]
                self.assertIs(judge_mirror_paper(book, row, (word, wrong)), False)

    def test_the_example(self):
        book = three_twos()
        self.assertEqual(self.check(book, (1, -1, 1)), "there")
        self.assertEqual(self.check(book, (2, 1, -2)), "here")
        self.assertIs(judge_mirror_paper(book, (1, -1, 1), ("there", (0, 1))), True)
        self.assertIs(judge_mirror_paper(book, (1, -1, 1), ("here", (0, 1))), False)
        self.assertIs(judge_mirror_paper(book, (2, 1, -2), ("here", (0, 1))), True)
        self.assertIs(judge_mirror_paper(book, (2, 1, -2), ("here", (0, 0))), False)

    def test_one_good(self):
        for number in range(-60, 61):
            self.assertEqual(self.check(Book(["a"], []), (number,)), "here" if number >= 0 else "there")
            self.assertEqual(mirror_paper(Book(["a"], []), (number,))[1], ())

    def test_all_rows_of_small_books(self):
        for book in (
            three_twos(), three(), money(), Book(["a", "b"], [("p", (-2, 2))]), Book(["a", "b"], [("p", (3, -2))]),
            Book(["a", "b", "c"], [("p", (-2, 1, 1)), ("q", (0, -3, 2))]),
        ):
            words = [self.check(book, row) for row in itertools.product(range(-3, 4), repeat=len(book.goods()))]
            self.assertEqual(set(words), {"here", "there"})

    def test_drawn_books(self):
        rng = random.Random(327)
        found = {"here": 0, "there": 0}
        for _ in range(150):
            book, _ = drawn_good_book(rng, rng.randint(1, 6), 1.0, rng.choice([1, 3, 9, 99]))
            book = stretched(rng, book, [1, 1, 1, 2, 5])
            row = tuple(rng.randint(-60, 60) for _ in book.goods())
            found[self.check(book, row)] += 1
            # And near the mirror of noughts, where the rows are hard to tell.
            near = plus(mirror_row(book), tuple(rng.randint(-1, 1) for _ in book.goods()))
            account = [rng.randint(-2, 2) for _ in book.names()]
            found[self.check(book, plus(near, plain_balance(book, account)))] += 1
        self.assertGreater(min(found.values()), 60)

    def test_books_that_are_not_full(self):
        for book in (Book([], []), Book(["a", "b"], []), letters(), Book(["a", "b", "c"], [("p", (-1, 1, 0))])):
            row = tuple(range(len(book.goods())))
            zeros = (0,) * len(book.names())
            self.assertIsNone(mirror_paper(book, row))
            for value in [*anything(), ("here", zeros), ("there", zeros)]:
                self.assertIs(judge_mirror_paper(book, row, value), False)

    def test_values_of_all_kinds(self):
        for book, row in ((three_twos(), (1, -1, 1)), (three_twos(), (0, 0, 0)), (Book(["a"], []), (-1,))):
            for value in [*anything(), nested(40, "here")]:
                self.assertIs(judge_mirror_paper(book, row, value), False)
                self.assertIs(judge_mirror_paper(book, row, (value, (0,) * len(book.names()))), False)
                if value != ():
                    self.assertIs(judge_mirror_paper(book, row, ("here", value)), False)
                    self.assertIs(judge_mirror_paper(book, row, ("there", value)), False)

    def test_bad_books(self):
        books = [there_and_back(), ring(3), ring(6)]
        for book in books + [one for one in drawn_books(328, 60) if not plain_is_good(one)]:
            row = (0,) * len(book.goods())
            for function, *arguments in (
                (account_to_stock, row), (mirror_row,), (mirror_paper, row), (judge_mirror_paper, row, None),
                (judge_mirror_paper, row, ("here", (0,) * len(book.names()))),
            ):
                kind, square = raised(function, book, *arguments)
                self.assertIs(kind, NotGood)
                self.assertTrue(plain_is_square(book, square))

    def test_books_at_the_limits(self):
        rng = random.Random(329)
        for most in (1, 2, 9, 99, 10 ** 6, 10 ** 39) * 4:
            book, _ = drawn_good_book(rng, 6, 1.0, most)
            for _ in range(3):
                row = tuple(rng.randint(-60, 60) for _ in range(6))
                paper = in_time(mirror_paper, book, row)
                self.assertIs(in_time(judge_mirror_paper, book, row, paper), True)


if __name__ == "__main__":
    unittest.main()
