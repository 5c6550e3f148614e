"""solving.py: [S3.1], [S3.3], [S3.4] and [S3.6], as far as they tell stairs, rests and idle stairs."""

import random
import unittest

from eitherbarter.books import Book, joined_books, turned_book, with_barter
from eitherbarter.solving import idle_stairs, is_balance, rest, stairs
from eitherbarter.squares import is_good_book
from tests.helpers import (
    coins, dependent, drawn_book, drawn_books, drawn_good_book, letters, plain_balance, rank_and_divisor, three,
)


def head_places(rows):
    """The head places of rows that are not all 0."""
    return [next(k for k, number in enumerate(row) if number) for row in rows]


def total(rows, numbers, many):
    """The sum of rows of so many numbers, each multiplied by a number."""
    return tuple(sum(number * row[j] for number, row in zip(numbers, rows)) for j in range(many))


def drawn_books_for_stairs(seed):
    """Books with numbers of up to 12 digits, some with barters that are sums of others."""
    rng = random.Random(seed)
    books = drawn_books(seed, 40)
    for most in (1, 3, 12, 99, 10 ** 6, 10 ** 12 - 1):
        for _ in range(12):
            book = drawn_book(rng, rng.randint(2, 7), rng.randint(1, 7), rng.choice([0.4, 0.7, 1.0]), most)
            books.append(book)
            rows = [row for _, row in book.barters()]
            more = total(rows, [rng.randint(-3, 3) for _ in rows], len(book.goods()))
            if min(more) < 0 < max(more):
                books.append(with_barter(book, "more", more))
                books.append(Book(book.goods(), [("more", more), *book.barters()]))
    for goods, barters in ((10, 12), (10, 9), (4, 12), (10, 3)):
        books.append(drawn_book(rng, goods, barters, 0.6, 10 ** 12 - 1))
        books.append(drawn_book(rng, goods, barters, 1.0, 9))
    return books


class Stairs(unittest.TestCase):
    def check_form(self, rows, many):
        """Heads above 0, ascending head places, and small numbers at least 0 above the heads."""
        places = head_places(rows)
        self.assertEqual(places, sorted(set(places)))
        for k, (row, place) in enumerate(zip(rows, places)):
            self.assertIs(type(row), tuple)
            self.assertEqual(len(row), many)
            self.assertGreater(row[place], 0)
            for earlier in rows[:k]:
                self.assertTrue(0 <= earlier[place] < row[place])

    def check(self, book):
        rows = [row for _, row in book.barters()]
        many = len(book.goods())
        found = stairs(book)
        self.assertIs(type(found), list)
        self.check_form(found, many)
        for row in rows:
            self.assertIs(is_balance(book, row), True)
            self.assertEqual(rest(book, row), (0,) * many)
        # The barters' rows are sums of the stairs; of as many, with the same minors, so are the stairs of them.
        self.assertEqual(rank_and_divisor(found), rank_and_divisor(rows))
        self.check_sums(found, rows, many)

    def check_sums(self, found, rows, many):
        """Each row is a sum of stairs multiplied by integers."""
        places = head_places(found)
        for row in rows:
            left = row
            for stair, place in zip(found, places):
                self.assertEqual(left[place] % stair[place], 0)
                left = total([left, stair], [1, -(left[place] // stair[place])], many)
            self.assertEqual(left, (0,) * many)

    def check_idle(self, book):
        found = idle_stairs(book)
        many = len(book.names())
        self.assertIs(type(found), list)
        self.check_form(found, many)
        for account in found:
            self.assertEqual(plain_balance(book, account), (0,) * len(book.goods()))
        rank, _ = rank_and_divisor([row for _, row in book.barters()])
        # As many as there can be, and no idle account is a sum of them by fractions alone.
        self.assertEqual(rank_and_divisor(found), (many - rank, 1))

    def test_the_books_of_the_document(self):
        self.assertEqual(stairs(three()), [(2, 2, -1), (0, 3, -1)])
        self.assertEqual(idle_stairs(three()), [])
        self.assertEqual(stairs(dependent()), [(2, -3)])
        self.assertEqual(idle_stairs(dependent()), [(1, 1, 1), (0, 5, 3)])

    def test_books_without_goods_and_without_barters(self):
        for book in (Book([], []), Book(["a"], []), Book(["a", "b"], [])):
            self.assertEqual(stairs(book), [])
            self.assertEqual(idle_stairs(book), [])

    def test_other_examples(self):
        book = Book(["a", "b"], [("p", (-1, 2)), ("q", (2, -1))])
        self.assertEqual(stairs(book), [(1, 1), (0, 3)])
        self.assertEqual(idle_stairs(book), [])
        book = Book(["a", "b"], [("p", (-4, 4)), ("q", (6, -6))])
        self.assertEqual(stairs(book), [(2, -2)])
        self.assertEqual(idle_stairs(book), [(3, 2)])
        book = Book(["a", "b", "c"], [("p", (0, -2, 4)), ("q", (0, 2, -4)), ("r", (0, 5, -3))])
        self.assertEqual(stairs(book), [(0, 1, 5), (0, 0, 14)])
        self.assertEqual(idle_stairs(book), [(1, 1, 0)])

    def test_drawn_books(self):
        for book in drawn_books_for_stairs(101):
            self.check(book)
            self.check_idle(book)

    def test_the_same_balances_have_the_same_stairs(self):
        rng = random.Random(102)
        for book in drawn_books(103, 40):
            barters = book.barters()
            turned = turned_book(book, rng.sample(book.names(), rng.randint(0, len(barters))))
            self.assertEqual(stairs(turned), stairs(book))
            rng.shuffle(barters)
            self.assertEqual(stairs(Book(book.goods(), barters)), stairs(book))

    def test_good_books_are_independent(self):
        rng = random.Random(104)
        for _ in range(40):
            book, _ = drawn_good_book(rng, rng.randint(1, 10), 0.9, rng.choice([3, 9, 10 ** 12 - 1]))
            self.assertIs(is_good_book(book), True)
            self.assertEqual(idle_stairs(book), [])
            self.assertEqual(len(stairs(book)), len(book.names()))
            self.check(book)

    def test_joined_books(self):
        joined = joined_books(three(), dependent())
        self.assertEqual(stairs(joined), [(2, 2, -1, 0, 0), (0, 3, -1, 0, 0), (0, 0, 0, 2, -3)])
        self.assertEqual(idle_stairs(joined), [(0, 0, 1, 1, 1), (0, 0, 0, 5, 3)])


class Rests(unittest.TestCase):
    def test_the_book_of_the_document(self):
        self.assertEqual(rest(three(), (-6, 0, 1)), (0, 0, 0))
        self.assertEqual(rest(three(), (1, -1, 0)), (1, 2, -1))
        self.assertEqual(rest(three(), (-1, 2, 0)), (1, 1, 0))
        self.assertIs(is_balance(three(), (-6, 0, 1)), True)
        self.assertIs(is_balance(three(), (1, -1, 0)), False)

    def test_books_without_barters(self):
        self.assertEqual(rest(Book([], []), ()), ())
        self.assertIs(is_balance(Book([], []), ()), True)
        self.assertEqual(rest(Book(["a", "b"], []), (5, -7)), (5, -7))
        self.assertIs(is_balance(Book(["a", "b"], []), (5, -7)), False)
        self.assertIs(is_balance(Book(["a", "b"], []), (0, 0)), True)

    def test_drawn_rows(self):
        rng = random.Random(105)
        for book in drawn_books_for_stairs(106):
            many = len(book.goods())
            found = stairs(book)
            for most in (3, 10 ** 12, 10 ** 40 - 1):
                row = tuple(rng.randint(-most, most) for _ in range(many))
                told = rest(book, row)
                self.assertIs(type(told), tuple)
                for stair, place in zip(found, head_places(found)):
                    self.assertTrue(0 <= told[place] < stair[place])
                gone = total([row, told], [1, -1], many)
                self.assertIs(is_balance(book, gone), True)
                self.assertEqual(rest(book, told), told)
                self.assertIs(is_balance(book, row), not any(told))
                account = [rng.randint(-most, most) for _ in book.names()]
                moved = total([row, plain_balance(book, account)], [1, 1], many)
                self.assertEqual(rest(book, moved), told)
                self.assertIs(is_balance(book, plain_balance(book, account)), True)

    def test_what_is_a_balance_held_against_a_plain_search(self):
        for book in (three(), dependent(), coins(), letters()):
            many = len(book.names())
            accounts = [()]
            for _ in range(many):
                accounts = [account + (n,) for account in accounts for n in range(-4, 5)]
            balances = {plain_balance(book, account) for account in accounts}
            for row in balances:
                self.assertIs(is_balance(book, row), True)
        small = {row for row in balances if max(map(abs, row)) <= 2}
        for row in small:
            self.assertIs(is_balance(letters(), row), True)
            for k in (0, 3, 4):
                near = row[:k] + (row[k] + 1,) + row[k + 1:]
                rows = [row for _, row in letters().barters()]
                same = rank_and_divisor([*rows, near]) == rank_and_divisor(rows)
                self.assertIs(is_balance(letters(), near), same)

    def test_near_balances_by_minors(self):
        rng = random.Random(107)
        for book in drawn_books(108, 60):
            rows = [row for _, row in book.barters()]
            for _ in range(5):
                row = list(plain_balance(book, [rng.randint(-5, 5) for _ in rows]))
                if row:
                    row[rng.randrange(len(row))] += rng.choice([-2, -1, 0, 1, 2])
                # A row is a balance exactly if it makes neither more rows unlike nor their minors less.
                same = rank_and_divisor([*rows, tuple(row)]) == rank_and_divisor(rows)
                self.assertIs(is_balance(book, tuple(row)), same)


if __name__ == "__main__":
    unittest.main()
