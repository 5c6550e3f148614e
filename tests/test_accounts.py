"""accounts.py: [S3.1] to [S3.6]."""

import itertools
import random
import unittest
from fractions import Fraction

from eitherbarter.accounts import (
    account_deeds, account_of, balance, cancels_at, cost, judge_account, judge_no_account, no_account_row, reduced,
)
from eitherbarter.books import Book, joined_books, turned_book, with_barter
from eitherbarter.errors import BadAccount, BadPrices, NoAccount
from eitherbarter.solving import idle_stairs
from tests.helpers import (
    anything, coins, dependent, drawn_book, drawn_books, drawn_good_book, in_time, letters, plain_balance, plain_sum,
    plus, raised, rank_and_divisor, three,
)


def drawn_ends(rng, book, most=9, digits=3):
    """An account of the book, and two stocks between which it leads."""
    account = tuple(rng.randint(-most, most) for _ in book.names())
    row = plain_balance(book, account)
    f = tuple(max(0, -number) + rng.randint(0, 10 ** digits) for number in row)
    return account, f, plus(f, row)


def books_with_sums(seed, many=25):
    """Drawn books, some with barters that are sums of others, more of them than goods, and great numbers."""
    rng = random.Random(seed)
    books = drawn_books(seed, many) + [dependent(), three(), letters(), Book(["a"], [])]
    for most in (2, 9, 10 ** 6, 10 ** 12 - 1):
        for _ in range(6):
            book = drawn_book(rng, rng.randint(2, 5), rng.randint(1, 5), 0.6, most)
            rows = [row for _, row in book.barters()]
            more = plain_balance(book, [rng.randint(-3, 3) for _ in rows])
            books.append(book)
            if min(more) < 0 < max(more):
                books.append(with_barter(book, "more", more))
                books.append(Book(book.goods(), [("more", more), *book.barters()]))
    return books


def is_reduced(book, account):
    """Whether the numbers at the head places of the idle stairs are small and not below 0."""
    for stair in idle_stairs(book):
        place = next(k for k, number in enumerate(stair) if number)
        if not 0 <= account[place] < stair[place]:
            return False
    return True


def has_account(book, f, g):
    """Whether g less f makes neither the barters' rows more unlike nor their minors less."""
    rows = [row for _, row in book.barters()]
    return rank_and_divisor([*rows, plus(g, f, -1)]) == rank_and_divisor(rows)


def is_no_account_row(book, f, g, row):
    """Whether a tuple of fractions, as pairs, is a no-account row."""
    whole = [plain_sum(barter, row).denominator == 1 for _, barter in book.barters()]
    return all(whole) and plain_sum(plus(g, f, -1), row).denominator > 1


class Balances(unittest.TestCase):
    def test_the_book_of_the_document(self):
        self.assertEqual(balance(three(), (3, 1)), (-6, 0, 1))
        self.assertEqual(balance(three(), (-3, -1)), (6, 0, -1))
        self.assertEqual(balance(three(), (0, 0)), (0, 0, 0))
        self.assertIs(judge_account(three(), (7, 0, 0), (1, 0, 1), (3, 1)), True)
        self.assertIs(judge_account(three(), (1, 0, 1), (7, 0, 0), (-3, -1)), True)
        self.assertIs(judge_account(three(), (1, 0, 1), (7, 0, 0), (3, 1)), False)

    def test_no_goods_and_no_barters(self):
        self.assertEqual(balance(Book([], []), ()), ())
        self.assertEqual(balance(Book(["a", "b"], []), ()), (0, 0))
        self.assertIs(judge_account(Book([], []), (), (), ()), True)
        self.assertIs(judge_account(Book(["a"], []), (3,), (3,), ()), True)
        self.assertIs(judge_account(Book(["a"], []), (3,), (4,), ()), False)

    def test_drawn_books(self):
        rng = random.Random(201)
        for book in books_with_sums(201):
            account = tuple(rng.randint(-9, 9) for _ in book.names())
            self.assertEqual(balance(book, account), plain_balance(book, account))
            self.assertIs(type(balance(book, account)), tuple)

    def test_accounts_add_up(self):
        rng = random.Random(202)
        for book in books_with_sums(202, 15):
            one, f, h = drawn_ends(rng, book)
            other = tuple(rng.randint(-9, 9) for _ in book.names())
            g = plus(h, plain_balance(book, other))
            if min(g, default=0) >= 0:
                self.assertIs(judge_account(book, h, g, other), True)
                self.assertIs(judge_account(book, f, g, plus(one, other)), True)
                self.assertIs(judge_account(book, g, f, tuple(-n for n in plus(one, other))), True)

    def test_numbers_of_forty_digits(self):
        great = 10 ** 40 - 1
        self.assertEqual(balance(three(), (great, -great)), (-2 * great, great + 3 * great, -great))
        self.assertIs(judge_account(three(), (2 * great, 0, great), (0, 4 * great, 0), (great, -great)), True)
        self.assertIs(judge_account(three(), (2 * great, 0, great), (0, 4 * great - 1, 0), (great, -great)), False)
        book = Book(["a", "b"], [("p", (-(10 ** 12 - 1), 10 ** 11))])
        self.assertEqual(balance(book, (-great,)), (great * (10 ** 12 - 1), -great * 10 ** 11))

    def test_judged_values(self):
        f, g = (7, 0, 0), (1, 0, 1)
        for value in (
            (3, 2), (2, 1), (3,), (3, 1, 0), [3, 1], (3, True), (True, 1), ("3", 1), (3, None), (3, (1,)), None, (),
            ((3, 1),), (-3, -1), 3,
        ):
            self.assertIs(judge_account(three(), f, g, value), False, value)
        one = Book(["a", "b"], [("p", (-1, 1))])
        self.assertIs(judge_account(one, (1, 0), (0, 1), (1,)), True)
        self.assertIs(judge_account(one, (1, 0), (0, 1), (True,)), False)
        self.assertIs(judge_account(one, (1, 0), (1, 0), (False,)), False)

    def test_an_account_need_not_be_reduced(self):
        for value in ((0, 2, 1), (1, 3, 2), (-1, 1, 0), (0, 7, 4)):
            self.assertIs(judge_account(dependent(), (2, 0), (0, 3), value), True)
        self.assertIs(judge_account(dependent(), (2, 0), (0, 3), (0, 2, 2)), False)

    def test_values_of_all_kinds(self):
        for value in anything():
            self.assertIs(judge_account(three(), (0, 0, 0), (0, 0, 0), value), False)
            empty = value == () and type(value) is tuple
            self.assertIs(judge_account(Book([], []), (), (), value), empty)
            number = type(value) is int
            self.assertIs(judge_account(three(), (0,) * 3, (0,) * 3, (0, value)), number and value == 0)


class WrongAccounts(unittest.TestCase):
    def calls(self, value):
        """Calls with what should be an account of the book of the document."""
        return [
            (balance, three(), value), (reduced, three(), value), (cost, three(), value, [1, 2]),
            (account_deeds, three(), value), (cancels_at, three(), value, (1, 1)), (cancels_at, three(), (1, 1), value),
        ]

    def check(self, value, path):
        for call in self.calls(value):
            self.assertEqual(raised(*call), None if path is None else (BadAccount, path), call)

    def test_each_path(self):
        for value, path in (
            ((1, 2), None), ([1, 2], ()), ((1,), ()), ((1, 2, 3), ()), ((), ()), (None, ()), ("ab", ()), (12, ()),
            ((None, 2), (0,)), ((1, None), (1,)), ((None, None), (0,)), ((True, 1), (0,)), ((1, False), (1,)),
            (("1", 2), (0,)), ((1, (2,)), (1,)), ((1, [2]), (1,)), (("1", 2, 3), ()), ((True,), ()),
        ):
            self.check(value, path)

    def test_values_of_all_kinds(self):
        for value in anything():
            # Some of them are tuples of two members, but then the first one is no integer.
            self.check(value, (0,) if type(value) is tuple and len(value) == 2 else ())
            number = type(value) is int
            self.check((value, 1), None if number else (0,))
            self.check((1, value), None if number else (1,))
            self.check((value, None), (1,) if number else (0,))

    def test_books_without_barters(self):
        for book in (Book([], []), Book(["a", "b"], [])):
            for value in anything():
                expected = None if value == () and type(value) is tuple else (BadAccount, ())
                self.assertEqual(raised(balance, book, value), expected)
                self.assertEqual(raised(account_deeds, book, value), expected)
            self.assertEqual((reduced(book, ()), cost(book, (), []), account_deeds(book, ())), ((), 0, []))
            self.assertEqual(cancels_at(book, (), ()), [])

    def test_the_first_of_two_accounts(self):
        self.assertEqual(raised(cancels_at, three(), (1, None), [1, 2]), (BadAccount, (1,)))
        self.assertEqual(raised(cancels_at, three(), [1, 2], (1, None)), (BadAccount, ()))
        self.assertEqual(raised(cancels_at, three(), (1, 1), (1, None)), (BadAccount, (1,)))

    def test_the_account_comes_ahead_of_the_prices(self):
        self.assertEqual(raised(cost, three(), (1, None), None), (BadAccount, (1,)))
        self.assertEqual(raised(cost, three(), None, [-1, None]), (BadAccount, ()))
        self.assertEqual(raised(cost, three(), (1, 1), [-1, None]), (BadPrices, (0,)))


class Costs(unittest.TestCase):
    def test_the_book_of_the_document(self):
        self.assertEqual(cost(three(), (3, 1), [5, 2]), 17)
        self.assertEqual(cost(three(), (-3, -1), [5, 2]), 17)
        self.assertEqual(cost(three(), (-3, 1), (5, 2)), 17)
        self.assertEqual(cost(three(), (0, 0), [5, 2]), 0)
        self.assertEqual(cost(three(), (3, 1), [0, 0]), 0)
        self.assertEqual(cancels_at(three(), (3, 1), (-3, -1)), ["p", "q"])
        self.assertEqual(account_deeds(three(), (3, 1)), [("p", 1, 3), ("q", 1, 1)])
        self.assertEqual(account_deeds(three(), (-4, 0)), [("p", -1, 4)])
        self.assertEqual(account_deeds(three(), (0, 0)), [])

    def test_each_wrong_price(self):
        for prices, path in (
            ([1, 2], None), ((1, 2), None), ([0, 0], None), ([1], ()), ([1, 2, 3], ()), ([], ()), (None, ()),
            ("ab", ()), ({0: 1, 1: 2}, ()), (12, ()), ([-1, 2], (0,)), ([1, -1], (1,)), ([None, None], (0,)),
            ([1, True], (1,)), ([False, 1], (0,)), ([1, "2"], (1,)), ([1, (2,)], (1,)), ([-1], ()),
            ([10 ** 40 - 1, 0], None),
        ):
            expected = None if path is None else (BadPrices, path)
            self.assertEqual(raised(cost, three(), (1, 1), prices), expected, prices)

    def test_values_of_all_kinds_as_prices(self):
        for value in anything():
            number = type(value) is int and value >= 0
            self.assertEqual(raised(cost, three(), (1, 1), [value, 1]), None if number else (BadPrices, (0,)))
            self.assertEqual(raised(cost, three(), (1, 1), (1, value)), None if number else (BadPrices, (1,)))
            if type(value) not in (list, tuple) or len(value) != 2:
                self.assertEqual(raised(cost, three(), (1, 1), value), (BadPrices, ()))
            empty = type(value) in (list, tuple) and len(value) == 0
            self.assertEqual(raised(cost, Book(["a"], []), (), value), None if empty else (BadPrices, ()))

    def test_numbers_of_forty_digits(self):
        great = 10 ** 40 - 1
        self.assertEqual(cost(three(), (-great, great), [great, 2]), great * (great + 2))
        self.assertEqual(account_deeds(three(), (-great, great)), [("p", -1, great), ("q", 1, great)])

    def test_drawn_accounts(self):
        rng = random.Random(203)
        for book in drawn_books(203, 60):
            names = book.names()
            one, other = (tuple(rng.randint(-3, 3) for _ in names) for _ in range(2))
            prices = [rng.randint(0, 9) for _ in names]
            cancelled = [name for name, a, b in zip(names, one, other) if a * b < 0]
            self.assertEqual(cancels_at(book, one, other), cancelled)
            self.assertEqual(cancels_at(book, other, one), cancelled)
            together = cost(book, plus(one, other), prices)
            self.assertEqual(cost(book, one, prices), sum(abs(a) * b for a, b in zip(one, prices)))
            apart = cost(book, one, prices) + cost(book, other, prices)
            if not cancelled:
                self.assertEqual(together, apart)
            self.assertLessEqual(together, apart)
            self.assertEqual(account_deeds(book, one), [
                (name, 1 if number > 0 else -1, abs(number)) for name, number in zip(names, one) if number
            ])


class Accounts(unittest.TestCase):
    def check(self, book, f, g):
        """account_of and no_account_row between two stocks."""
        row = no_account_row(book, f, g)
        if has_account(book, f, g):
            account = account_of(book, f, g)
            self.assertIs(type(account), tuple)
            self.assertEqual(plus(f, plain_balance(book, account)), g)
            self.assertTrue(is_reduced(book, account), account)
            self.assertIs(judge_account(book, f, g, account), True)
            self.assertIsNone(row)
        else:
            self.assertTrue(is_no_account_row(book, f, g, row), row)
            self.assertIs(judge_no_account(book, f, g, row), True)
            self.assertEqual(raised(account_of, book, f, g), (NoAccount, row))

    def test_the_books_of_the_document(self):
        self.assertEqual(account_of(three(), (7, 0, 0), (1, 0, 1)), (3, 1))
        self.assertEqual(account_of(three(), (1, 0, 1), (7, 0, 0)), (-3, -1))
        self.assertEqual(account_of(dependent(), (2, 0), (0, 3)), (0, 2, 1))
        self.assertEqual(account_of(dependent(), (0, 3), (2, 0)), (0, 3, 2))
        self.assertEqual(account_of(dependent(), (4, 4), (4, 4)), (0, 0, 0))
        self.check(dependent(), (1, 0), (0, 2))
        self.check(three(), (2, 0, 0), (1, 2, 0))
        self.check(three(), (0, 1, 0), (0, 0, 0))

    def test_no_goods_and_no_barters(self):
        self.assertEqual(account_of(Book([], []), (), ()), ())
        self.assertIsNone(no_account_row(Book([], []), (), ()))
        self.assertEqual(account_of(Book(["a", "b"], []), (2, 3), (2, 3)), ())
        for f, g in (((2, 3), (2, 4)), ((2, 3), (1, 3)), ((0, 0), (5, 5)), ((5, 5), (0, 0))):
            self.check(Book(["a", "b"], []), f, g)

    def test_all_small_ends_against_a_listing(self):
        for book in (three(), dependent(), Book(["a", "b"], [("p", (-1, 2)), ("q", (2, -1))]), coins()):
            many = len(book.goods())
            boxes = [range(-9, 10)] * len(book.names())
            balances = {plain_balance(book, account) for account in itertools.product(*boxes)}
            stocks = list(itertools.product(range(3), repeat=many))
            for f in stocks:
                for g in stocks:
                    self.check(book, f, g)
                    self.assertIs(no_account_row(book, f, g) is None, plus(g, f, -1) in balances)

    def test_drawn_ends(self):
        rng = random.Random(204)
        for book in books_with_sums(204):
            _, f, g = drawn_ends(rng, book)
            self.check(book, f, g)
            for _ in range(3):
                other = tuple(rng.randint(0, 9) for _ in g)
                self.check(book, f, other)
            if g:
                near = list(g)
                near[rng.randrange(len(g))] += rng.choice([1, 2, 6])
                self.check(book, f, tuple(near))

    def test_the_one_account_of_a_good_book(self):
        rng = random.Random(205)
        for _ in range(80):
            book, _ = drawn_good_book(rng, rng.randint(1, 10))
            account, f, g = drawn_ends(rng, book, 30)
            self.assertEqual(account_of(book, f, g), account)
            self.assertEqual(account_of(book, g, f), tuple(-number for number in account))
            self.assertEqual(reduced(book, account), account)

    def test_reduced(self):
        rng = random.Random(206)
        self.assertEqual(reduced(dependent(), (1, 3, 2)), (0, 2, 1))
        self.assertEqual(reduced(dependent(), (0, 0, 0)), (0, 0, 0))
        self.assertEqual(reduced(dependent(), (0, -1, 0)), (0, 4, 3))
        self.assertEqual(reduced(three(), (-4, 17)), (-4, 17))
        for book in books_with_sums(206):
            account, f, g = drawn_ends(rng, book)
            told = reduced(book, account)
            self.assertEqual(plain_balance(book, told), plain_balance(book, account))
            self.assertTrue(is_reduced(book, told))
            self.assertEqual(account_of(book, f, g), told)
            for stair in idle_stairs(book):
                self.assertEqual(reduced(book, plus(account, stair, rng.randint(-5, 5))), told)

    def test_turned_and_joined_books(self):
        rng = random.Random(207)
        for _ in range(20):
            book, _ = drawn_good_book(rng, 4)
            account, f, g = drawn_ends(rng, book)
            turned = turned_book(book, book.names())
            self.assertEqual(account_of(turned, f, g), tuple(-number for number in account))
            joined = joined_books(book, three())
            self.assertEqual(account_of(joined, f + (7, 0, 0), g + (1, 0, 1)), account + (3, 1))

    def test_numbers_of_forty_digits(self):
        great = 10 ** 40 - 1
        self.check(three(), (great, great, great), (0, 1, 10 ** 39))
        self.check(dependent(), (great, great), (0, 17))
        self.check(Book(["a"], []), (great,), (0,))
        rng = random.Random(208)
        for goods, barters in ((10, 12), (10, 9), (5, 12), (2, 12)):
            book = drawn_book(rng, goods, barters, 0.7, 10 ** 12 - 1)
            account = tuple(rng.randint(-great, great) for _ in range(barters))
            row = plain_balance(book, account)
            f = tuple(max(0, -number) for number in row)
            self.check(book, f, plus(f, row))
            self.check(book, f, plus(f, plus(row, (1,) * goods)))
            self.assertTrue(is_reduced(book, reduced(book, account)))


class NoAccountRows(unittest.TestCase):
    def test_the_rows_of_the_document(self):
        self.assertIs(judge_no_account(three(), (2, 0, 0), (1, 2, 0), ((1, 2), (0, 1), (0, 1))), True)
        self.assertIs(judge_no_account(three(), (0, 1, 0), (0, 0, 0), ((1, 6), (1, 3), (1, 1))), True)
        self.assertIs(judge_no_account(dependent(), (1, 0), (0, 2), ((1, 2), (0, 1))), True)

    def test_near_misses(self):
        f, g = (2, 0, 0), (1, 2, 0)
        for value in (
            ((2, 4), (0, 1), (0, 1)), ((1, 2), (0, 2), (0, 1)), ((-1, -2), (0, 1), (0, 1)), ((1, 2), (0, 1)), (),
            ((1, 2), (0, 1), (0, 1), (0, 1)), ((1, 2), 0, 0), (0, 0, 0), [(1, 2), (0, 1), (0, 1)],
            ([1, 2], (0, 1), (0, 1)), ((1, 2), (False, 1), (0, 1)), ((1, 2), (0, True), (0, 1)), ((1, 2), (0, 1), None),
            ((1, 3), (0, 1), (0, 1)), ((1, 1), (0, 1), (0, 1)), ((1, 4), (1, 4), (0, 1)), ((0, 1), (0, 1), (0, 1)),
            ((1, 0), (0, 1), (0, 1)), ((1, 2, 3), (0, 1), (0, 1)), ((1,), (0, 1), (0, 1)), None, "abc", 5,
            ((1, 2), (0, 1), "01"), ((1, 2), (0, 1), (0, "1")), ((1, 2), (0, 1), (0, -1)),
        ):
            self.assertIs(judge_no_account(three(), f, g, value), False, value)
        for value in (((-1, 2), (0, 1), (0, 1)), ((3, 2), (5, 1), (-7, 1)), ((1, 2), (0, 1), (1, 1))):
            self.assertIs(judge_no_account(three(), f, g, value), True, value)

    def test_values_of_all_kinds(self):
        for value in anything():
            self.assertIs(judge_no_account(three(), (2, 0, 0), (1, 2, 0), value), False)
            self.assertIs(judge_no_account(three(), (2, 0, 0), (1, 2, 0), ((1, 2), (0, 1), value)), False)
            self.assertIs(judge_no_account(three(), (2, 0, 0), (1, 2, 0), ((1, value), (0, 1), (0, 1))),
                          value == 2 and type(value) is int)
            self.assertIs(judge_no_account(Book([], []), (), (), value), False)

    def test_no_row_is_taken_where_there_is_an_account(self):
        rng = random.Random(209)
        for book in books_with_sums(209):
            _, f, g = drawn_ends(rng, book)
            for _ in range(10):
                row = []
                for _ in f:
                    fraction = Fraction(rng.randint(-6, 6), rng.randint(1, 6))
                    row.append((fraction.numerator, fraction.denominator))
                self.assertIs(judge_no_account(book, f, g, tuple(row)), False)
                other = tuple(rng.randint(0, 4) for _ in f)
                expected = is_no_account_row(book, f, other, row)
                self.assertIs(judge_no_account(book, f, other, tuple(row)), expected)

    def test_rows_multiplied_and_moved(self):
        rng = random.Random(210)
        for book in books_with_sums(210):
            f = tuple(rng.randint(0, 9) for _ in book.goods())
            g = tuple(rng.randint(0, 9) for _ in book.goods())
            row = no_account_row(book, f, g)
            if row is None:
                continue
            for many, more in ((-1, 0), (2, 0), (1, 1), (1, -3), (7, 2)):
                fractions = [Fraction(*pair) * many + more for pair in row]
                other = tuple((number.numerator, number.denominator) for number in fractions)
                expected = is_no_account_row(book, f, g, other)
                self.assertIs(judge_no_account(book, f, g, other), expected)
            # The same sums come in the other direction, but with the other sign.
            self.assertIs(judge_no_account(book, g, f, row), True)


class Slow(unittest.TestCase):
    def test_books_at_the_limits(self):
        rng = random.Random(211)
        for goods, barters, share in ((10, 12, 1.0), (10, 12, 0.3), (10, 5, 1.0), (3, 12, 1.0)):
            book = drawn_book(rng, goods, barters, share, 10 ** 12 - 1)
            f, g = (tuple(rng.randint(0, 10 ** 40 - 1) for _ in range(goods)) for _ in range(2))
            account = tuple(rng.randint(-10 ** 39, 10 ** 39) for _ in range(barters))
            for call in (
                (account_of, book, f, g), (no_account_row, book, f, g), (reduced, book, account),
                (judge_account, book, f, g, account), (balance, book, account),
            ):
                in_time(*call)
            row = no_account_row(book, f, g)
            if row is not None:
                self.assertIs(in_time(judge_no_account, book, f, g, row), True)


if __name__ == "__main__":
    unittest.main()
