"""moments.py: [S6.1] to [S6.4], [S6.6] and [S6.7], as far as they tell moments."""

import itertools
import random
import unittest

from eitherbarter.books import Book
from eitherbarter.errors import BadAccount, BadOrder, NotGood
from eitherbarter.moments import all_moments, is_ample, is_moment, needed, next_names, stock_at
from eitherbarter.orders import (
    any_order, count_orders, drawn_order, judge_order, next_order, order_at, order_number, order_script,
    orders_beginning,
)
from eitherbarter.squares import square_of
from tests.helpers import (
    anything, dependent, drawn_books, drawn_carry, in_time, money, plain_balance, plain_is_good, plain_moments,
    plain_orders, plain_step, plus, raised, ring, there_and_back, three,
)

MOMENTS = [(0, 0), (1, 0), (1, 1), (1, 2), (2, 0), (2, 1), (2, 2)]


def calls_with(book, f, account):
    """A call of each function of both files, where anything behind the account is wrong, if it may be."""
    return [
        (stock_at, book, f, account, None), (is_moment, book, f, account, None), (all_moments, book, f, account),
        (next_names, book, f, account, None), (is_ample, book, f, account), (needed, book, f, account),
        (judge_order, book, f, account, None), (any_order, book, f, account),
        (order_script, book, f, account, [None]), (count_orders, book, f, account),
        (order_at, book, f, account, 10 ** 59), (order_number, book, f, account, [None]),
        (next_order, book, f, account, [None]), (drawn_order, book, f, account, 5),
        (orders_beginning, book, f, account, [None]),
    ]


class Moments(unittest.TestCase):
    def check(self, book, f, account):
        """All that is told of the moments of an account."""
        expected = plain_moments(book, f, account)
        self.assertEqual(all_moments(book, f, account), list(expected))
        amounts = [abs(number) for number in account]
        ways = [1 if number > 0 else -1 for number in account]
        for numbers in itertools.product(*(range(-1, amount + 2) for amount in amounts)):
            stock = expected.get(numbers)
            self.assertEqual(stock_at(book, f, account, numbers), stock)
            self.assertIs(is_moment(book, f, account, numbers), stock is not None)
            if stock is None:
                self.assertEqual(raised(next_names, book, f, account, numbers), (BadOrder, 0))
            else:
                self.assertEqual(next_names(book, f, account, numbers), [
                    name for k, name in enumerate(book.names())
                    if numbers[k] < amounts[k] and plain_step(book, stock, (name, ways[k])) is not None
                ])
        return expected

    def test_the_example(self):
        book, f, g = money(), (0, 0, 2), (10, 2, 0)
        self.assertEqual(all_moments(book, f, (2, 2)), MOMENTS)
        self.assertEqual(len(all_moments(book, (0, 2, 2), (2, 2))), 9)
        self.assertEqual(
            all_moments(book, g, (-2, -2)), [(0, 0), (0, 1), (0, 2), (1, 0), (1, 1), (1, 2), (2, 2)],
        )
        self.assertEqual(stock_at(book, f, (2, 2), (1, 1)), (5, 1, 1))
        self.assertEqual(stock_at(book, g, (-2, -2), (1, 1)), (5, 1, 1))
        self.assertIsNone(stock_at(book, f, (2, 2), (0, 1)))
        self.assertEqual(next_names(book, f, (2, 2), (0, 0)), ["split"])
        self.assertEqual(next_names(book, f, (2, 2), (1, 0)), ["split", "change"])
        self.assertEqual(next_names(book, f, (2, 2), (2, 2)), [])
        for ends in ((f, (2, 2)), (g, (-2, -2)), ((0, 2, 2), (2, 2))):
            self.check(book, *ends)

    def test_noughts_and_no_barters(self):
        for book, f in ((money(), (5, 1, 1)), (Book([], []), ()), (Book(["a", "b"], []), (2, 3))):
            account = (0,) * len(book.names())
            self.check(book, f, account)
            self.assertEqual(all_moments(book, f, account), [account])
            self.assertEqual(stock_at(book, f, account, account), f)
            self.assertEqual(next_names(book, f, account, account), [])
            self.assertIs(is_ample(book, f, account), True)
            self.assertEqual(needed(book, f, account), (0,) * len(f))

    def test_drawn_accounts(self):
        rng = random.Random(291)
        for _ in range(100):
            book, f, account, _ = drawn_carry(rng, rng.randint(2, 6), rng.randint(0, 8), 3, rng.choice([0, 0, 1, 9]))
            moments = self.check(book, f, account)
            # They are those that doable orders come to.
            if sum(map(abs, account)) <= 6:
                come = set()
                for order in plain_orders(book, f, account):
                    for k in range(len(order) + 1):
                        come.add(tuple(order[:k].count(name) for name in book.names()))
                self.assertEqual(sorted(come), list(moments))

    def test_what_is_no_moment(self):
        for value in (
            [0, 0], (0,), (0, 0, 0), (), (-1, 0), (3, 0), (0, 3), (1, True), (False, 0), (1, None), (1, "1"),
            ("a", "b"), None, 0, ((0, 0),), (1, (0,)), (1, [0]), (10 ** 39, 0), "00", {0: 0, 1: 0},
        ):
            self.assertIsNone(stock_at(money(), (0, 0, 2), (2, 2), value), value)
            self.assertIs(is_moment(money(), (0, 0, 2), (2, 2), value), False)
            self.assertEqual(raised(next_names, money(), (0, 0, 2), (2, 2), value), (BadOrder, 0))

    def test_values_of_all_kinds(self):
        for value in anything():
            number = type(value) is int and 0 <= value <= 2
            for moment, expected in ((value, False), ((2, value), number), ((value, value), number and value != 0)):
                expected = expected or (moment == (0, 0) and type(value) is int)
                self.assertIs(is_moment(money(), (0, 0, 2), (2, 2), moment), expected, moment)
                self.assertIs(stock_at(money(), (0, 0, 2), (2, 2), moment) is not None, expected)
                if not expected:
                    self.assertEqual(raised(next_names, money(), (0, 0, 2), (2, 2), moment), (BadOrder, 0))
            empty = value == () and type(value) is tuple
            self.assertIs(is_moment(Book([], []), (), (), value), empty)

    def test_accounts_of_sixty_deeds(self):
        rng = random.Random(292)
        for _ in range(20):
            book, f, account, g = drawn_carry(rng, 10, 60, 9, 0, 1.0)
            amounts = tuple(abs(number) for number in account)
            self.assertEqual(stock_at(book, f, account, (0,) * len(account)), f)
            self.assertEqual(stock_at(book, f, account, amounts), g)
            self.assertEqual(next_names(book, f, account, amounts), [])
            self.assertTrue(in_time(next_names, book, f, account, (0,) * len(account)))

    def test_two_thousand_tuples(self):
        book = Book(
            ["a", "b", "c", "d", "e", "f"],
            [("p", (-1, 1, 0, 0, 0, 0)), ("q", (0, 0, -1, 1, 0, 0)), ("r", (0, 0, 0, 0, -1, 1))],
        )
        self.assertEqual(len(in_time(all_moments, book, (9, 0, 9, 0, 19, 0), (9, 9, 19))), 2000)


class Ample(unittest.TestCase):
    def test_the_example(self):
        self.assertIs(is_ample(money(), (0, 2, 2), (2, 2)), True)
        self.assertIs(is_ample(money(), (0, 1, 2), (2, 2)), False)
        self.assertIs(is_ample(money(), (0, 0, 2), (2, 2)), False)
        self.assertEqual(needed(money(), (0, 0, 2), (2, 2)), (0, 2, 2))
        self.assertEqual(needed(money(), (10, 2, 0), (-2, -2)), (10, 4, 0))
        self.assertEqual(needed(three(), (7, 0, 0), (3, 1)), (6, 3, 0))

    def test_just_enough_and_one_less_of_a_good(self):
        rng = random.Random(293)
        for _ in range(60):
            book, f, account, _ = drawn_carry(rng, rng.randint(2, 7), rng.randint(1, 7), 3, 0, 1.0)
            rows = [row for _, row in book.barters()]
            taken = tuple(
                sum(max(0, -number * row[j]) for number, row in zip(account, rows)) for j in range(len(f))
            )
            self.assertEqual(needed(book, f, account), taken)
            self.assertIs(is_ample(book, taken, account), True)
            self.assertIs(is_ample(book, plus(taken, (3,) * len(f)), account), True)
            for j, number in enumerate(taken):
                less = taken[:j] + (number - 1,) + taken[j + 1:]
                if number and min(plus(less, plain_balance(book, account))) >= 0:
                    self.assertIs(is_ample(book, less, account), False)
                    self.assertEqual(needed(book, less, account), taken)
            self.assertIs(is_ample(book, f, account), all(have >= need for have, need in zip(f, taken)))


class Errors(unittest.TestCase):
    def check(self, book, f, account, error):
        for call in calls_with(book, f, account):
            self.assertEqual(raised(*call), error, call)

    def test_books_that_are_not_good(self):
        books = [there_and_back(), dependent(), ring(3)]
        books += [book for book in drawn_books(294, 50) if not plain_is_good(book)]
        for book in books:
            f = (1,) * len(book.goods())
            for account in (None, (0,) * len(book.names()), (None,) * len(book.names()), (-9,) * len(book.names())):
                self.check(book, f, account, (NotGood, square_of(book)))

    def test_each_wrong_account(self):
        f = (0, 0, 2)
        for account, path in (
            (None, ()), ([2, 2], ()), ((2,), ()), ((2, 2, 2), ()), ((), ()), ("ab", ()), ((None, 2), (0,)),
            ((2, None), (1,)), ((2, True), (1,)), ((False, 2), (0,)), ((None, None), (0,)), ((2, "2"), (1,)),
            ((3, 2), ()), ((0, 1), ()), ((2, 5), ()), ((-1, 0), ()), ((0, -1), ()), ((10 ** 39, 0), ()),
            ((3, None), (1,)), ((3, 2, 2), ()), (((2, 2), 2), (0,)), ((2, [2]), (1,)),
        ):
            self.check(money(), f, account, (BadAccount, path))
        self.check(Book([], []), (), (1,), (BadAccount, ()))
        self.check(Book(["a"], []), (1,), [], (BadAccount, ()))

    def test_values_of_all_kinds_as_accounts(self):
        for value in anything():
            path = (0,) if type(value) is tuple and len(value) == 2 else ()
            self.check(money(), (0, 0, 2), value, (BadAccount, path))
            if type(value) is not int:
                self.check(money(), (0, 0, 2), (9, value), (BadAccount, (1,)))


if __name__ == "__main__":
    unittest.main()
