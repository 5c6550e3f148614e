"""orders.py: [S6.1] and [S6.3] to [S6.7]."""

import math
import random
import unittest

from eitherbarter.books import Book, joined_books
from eitherbarter.errors import BadOrder, TooGreat
from eitherbarter.moments import is_ample, needed
from eitherbarter.orders import (
    any_order, count_orders, drawn_order, judge_order, next_order, order_at, order_number, order_script,
    orders_beginning,
)
from tests.helpers import (
    anything, drawn_carry, in_time, money, nested, plain_balance, plain_orders, plain_walk, plus, raised, three,
)

S, C = "split", "change"
ORDERS = [(S, S, C, C), (S, C, S, C), (S, C, C, S)]


def small_cases(seed, many, most=6, more=(0, 0, 1, 9)):
    """Drawn good books with accounts of few deeds."""
    rng = random.Random(seed)
    for _ in range(many):
        book, f, account, g = drawn_carry(rng, rng.randint(2, 6), rng.randint(0, most), 3, rng.choice(more), 1.0)
        yield rng, book, f, account, g


def script_of(book, account, order):
    """The deeds that an order tells."""
    ways = {name: 1 if number > 0 else -1 for name, number in zip(book.names(), account)}
    return [(name, ways[name]) for name in order]


def rows_of(amounts):
    """The number of ways to lay so many deeds of each barter into one row."""
    return math.factorial(sum(amounts)) // math.prod(math.factorial(amount) for amount in amounts)


class Counted(unittest.TestCase):
    def check(self, book, f, account):
        """All that is told of the doable orders, held against a listing."""
        orders = plain_orders(book, f, account)
        self.assertEqual(count_orders(book, f, account), len(orders))
        self.assertIn(any_order(book, f, account), orders)
        self.assertIs(type(any_order(book, f, account)), tuple)
        for number, order in enumerate(orders[:40]):
            self.assertEqual(order_at(book, f, account, number), order)
            self.assertIs(type(order_at(book, f, account, number)), tuple)
            self.assertEqual(order_number(book, f, account, order), number)
            self.assertEqual(order_number(book, f, account, list(order)), number)
            following = orders[number + 1] if number + 1 < len(orders) else None
            self.assertEqual(next_order(book, f, account, order), following)
            self.assertEqual(order_script(book, f, account, order), script_of(book, account, order))
            self.assertIsNone(judge_order(book, f, account, order))
            self.assertIsNone(judge_order(book, f, account, list(order)))
        self.assertEqual(order_at(book, f, account, len(orders) - 1), orders[-1])
        self.assertIsNone(next_order(book, f, account, list(orders[-1])))
        for number in (len(orders), len(orders) + 1, 10 ** 59):
            self.assertEqual(raised(order_at, book, f, account, number), (TooGreat, None))
        for number in (0, len(orders), 2 * len(orders) + 1, 10 ** 60 - 1, 987654321):
            self.assertEqual(drawn_order(book, f, account, number), orders[number % len(orders)])
        return orders

    def test_the_example(self):
        book, f, g = money(), (0, 0, 2), (10, 2, 0)
        self.assertEqual(self.check(book, f, (2, 2)), ORDERS)
        self.assertEqual(len(self.check(book, (0, 2, 2), (2, 2))), 6)
        self.assertEqual(self.check(book, g, (-2, -2)), [(S, C, C, S), (C, S, C, S), (C, C, S, S)])
        self.assertEqual([order_at(book, f, (2, 2), k) for k in range(3)], ORDERS)

    def test_noughts_and_no_barters(self):
        for book, f in ((money(), (5, 1, 1)), (Book([], []), ()), (Book(["a", "b"], []), (2, 3))):
            account = (0,) * len(book.names())
            self.assertEqual(self.check(book, f, account), [()])
            self.assertEqual(order_script(book, f, account, []), [])
            self.assertEqual(orders_beginning(book, f, account, []), 1)
            self.assertIsNone(judge_order(book, f, account, ()))

    def test_drawn_accounts(self):
        for _, book, f, account, g in small_cases(301, 70):
            orders = self.check(book, f, account)
            self.assertEqual(orders, sorted(orders, key=lambda order: [book.barter_number(name) for name in order]))
            # From the other end there are the same orders, read from their ends.
            turned = tuple(-number for number in account)
            self.assertEqual(count_orders(book, g, turned), len(orders))
            self.assertEqual(sorted(plain_orders(book, g, turned)), sorted(order[::-1] for order in orders))

    def test_ample_stocks(self):
        for _, book, f, account, _ in small_cases(302, 50, 9, (0, 2, 30)):
            amounts = [abs(number) for number in account]
            all_rows = rows_of(amounts)
            self.assertIs(is_ample(book, f, account), count_orders(book, f, account) == all_rows)
            enough = needed(book, f, account)
            self.assertEqual(count_orders(book, enough, account), all_rows)
            more = plus(f, (1,) * len(f))
            self.assertGreaterEqual(count_orders(book, more, account), count_orders(book, f, account))
            for j, number in enumerate(enough):
                less = enough[:j] + (number - 1,) + enough[j + 1:]
                if number and min(plus(less, plain_balance(book, account))) >= 0:
                    self.assertLess(count_orders(book, less, account), all_rows)

    def test_groups_without_a_common_good(self):
        for _, one, f, account, _ in small_cases(303, 25, 5):
            both = joined_books(one, three())
            many = count_orders(one, f, account)
            a = sum(map(abs, account))
            other = count_orders(three(), (7, 0, 0), (3, 1))
            self.assertEqual(count_orders(both, f + (7, 0, 0), account + (3, 1)), many * other * math.comb(a + 4, 4))

    def test_great_numbers(self):
        book = Book(
            ["a", "b", "c", "d", "e", "f"],
            [("p", (-1, 1, 0, 0, 0, 0)), ("q", (0, 0, -1, 1, 0, 0)), ("r", (0, 0, 0, 0, -1, 1))],
        )
        f, account = (9, 0, 0, 9, 19, 0), (9, -9, 19)
        many = rows_of((9, 9, 19))
        self.assertEqual(in_time(count_orders, book, f, account), many)
        for number in (0, 1, many // 2, many - 1, 123456789012):
            order = in_time(order_at, book, f, account, number)
            self.assertEqual(in_time(order_number, book, f, account, order), number)
            following = in_time(next_order, book, f, account, order)
            self.assertEqual(following, order_at(book, f, account, number + 1) if number + 1 < many else None)
        self.assertEqual(raised(order_at, book, f, account, many), (TooGreat, None))
        number = 10 ** 60 - 7
        self.assertEqual(
            in_time(drawn_order, book, f, account, number), order_at(book, f, account, number % many),
        )
        self.assertEqual(order_at(book, f, account, 0), ("p",) * 9 + ("q",) * 9 + ("r",) * 19)
        self.assertEqual(in_time(orders_beginning, book, f, account, ["r", "p"]), rows_of((8, 9, 18)))

    def test_orders_that_begin_so(self):
        for rng, book, f, account, _ in small_cases(304, 50):
            orders = plain_orders(book, f, account)
            order = rng.choice(orders)
            for k in range(len(order) + 1):
                many = sum(other[:k] == order[:k] for other in orders)
                self.assertEqual(orders_beginning(book, f, account, list(order[:k])), many)
                for name in [*book.names(), None, "a"]:
                    value = order[:k] + (name,)
                    many = sum(other[:k + 1] == value for other in orders)
                    self.assertEqual(orders_beginning(book, f, account, value), many)
        self.assertEqual(orders_beginning(money(), (0, 0, 2), (2, 2), []), 3)
        self.assertEqual(orders_beginning(money(), (0, 0, 2), (2, 2), [S, C]), 2)
        self.assertEqual(orders_beginning(money(), (0, 0, 2), (2, 2), [C]), 0)
        self.assertEqual(orders_beginning(money(), (0, 0, 2), (2, 2), [S, C, C, S, S]), 0)
        for value in anything():
            for members in ([value], [S, value], (S, C, value)):
                self.assertEqual(orders_beginning(money(), (0, 0, 2), (2, 2), members), 0)


class Judged(unittest.TestCase):
    def check(self, value, expected, f=(0, 0, 2), account=(2, 2)):
        self.assertEqual(judge_order(money(), f, account, value), expected, value)
        if isinstance(value, list):
            self.assertEqual(judge_order(money(), f, account, tuple(value)), expected, value)

    def test_each_answer(self):
        for order in ORDERS:
            self.check(list(order), None)
        for value in (None, "ab", {}, 5, True, {S: 2, C: 2}):
            self.check(value, ("form",))
        self.check(["nothing", S, S, C], ("name", 0))
        self.check([S, S, "cent", C], ("name", 2))
        self.check([S, S, C, C, S], ("name", 4))
        self.check([S, S, S, C], ("name", 2))
        self.check([S, S, C], ("short", C))
        self.check([S, C, C], ("short", S))
        self.check([], ("short", S))
        self.check([C, C], ("short", S))
        self.check([S, S], ("short", C))
        self.check([C, S, S, C], ("deed", 0))
        self.check([S, C, C, S], None)
        self.check([C, C, S, S], ("deed", 0))
        self.check([S, S, C, C], ("deed", 1), (10, 2, 0), (-2, -2))
        self.check([C, S, S, C], ("deed", 2), (10, 2, 0), (-2, -2))
        self.check([S], ("name", 0), (0, 0, 2), (0, 0))
        self.check([], None, (0, 0, 2), (0, 0))

    def test_each_answer_comes_ahead_of_later_ones(self):
        # A wrong name is told ahead of what is short, and both ahead of what cannot be done.
        self.check([C, None], ("name", 1))
        self.check([C, C, C], ("name", 2))
        self.check([C, C, S], ("short", S))
        self.check([C, S], ("short", S))
        self.check([C, S, S], ("short", C))
        self.check([C, S, S, C, "x"], ("name", 4))

    def test_values_of_all_kinds(self):
        for value in anything():
            if type(value) in (list, tuple):
                self.check(value, ("name", 0) if value else ("short", S))
            else:
                self.check(value, ("form",))
            self.check([S, value, C, C], ("name", 1))
            self.check([S, C, S, C, value], ("name", 4))
        self.check(nested(40), ("name", 0))

    def test_drawn_orders(self):
        for rng, book, f, account, _ in small_cases(305, 150):
            order = list(rng.choice(plain_orders(book, f, account)))
            names = [*book.names(), "nothing"]
            for _ in range(rng.randint(0, 2)):
                k = rng.randrange(len(order) + 1)
                order[k:k + rng.choice([0, 1])] = rng.choices(names, k=rng.choice([0, 1, 1]))
            if rng.random() < 0.5:
                rng.shuffle(order)
            self.assertEqual(judge_order(book, f, account, order), self.plain_answer(book, f, account, order))

    def plain_answer(self, book, f, account, order):
        amounts = {name: abs(number) for name, number in zip(book.names(), account)}
        for k, name in enumerate(order):
            if name not in amounts or order[:k].count(name) >= amounts[name]:
                return ("name", k)
        for name in book.names():
            if order.count(name) < amounts[name]:
                return ("short", name)
        stocks = plain_walk(book, f, script_of(book, account, order))
        return ("deed", len(stocks) - 1) if len(stocks) <= len(order) else None

    def test_accounts_of_sixty_deeds(self):
        rng = random.Random(306)
        for _ in range(20):
            book, f, account, g = drawn_carry(rng, 10, 60, 9, 0, 1.0)
            order = in_time(any_order, book, f, account)
            self.assertIsNone(in_time(judge_order, book, f, account, order))
            script = in_time(order_script, book, f, account, order)
            self.assertEqual(script, script_of(book, account, order))
            stocks = plain_walk(book, f, script)
            self.assertEqual((len(stocks), stocks[-1]), (len(order) + 1, g))
            self.assertEqual(len(order), sum(map(abs, account)))


class BadOrders(unittest.TestCase):
    def check(self, value, number, f=(0, 0, 2), account=(2, 2)):
        for function in (order_script, order_number, next_order):
            for members in (list(value), tuple(value)):
                self.assertEqual(raised(function, money(), f, account, members), (BadOrder, number), value)

    def test_each_reason(self):
        self.check([], 0)
        self.check([S], 1)
        self.check([S, S, C], 3)
        self.check([C], 0)
        self.check([S, S, S], 2)
        self.check([S, C, C, C], 3)
        self.check([S, S, C, C, C], 4)
        self.check([S, None, C], 1)
        self.check([S, "cent"], 1)
        self.check([None, C], 0)
        self.check([S, C, C, S, S], 4)
        self.check([S, S, C, C], 1, (10, 2, 0), (-2, -2))
        self.check([S], 0, (0, 0, 2), (0, 0))
        # Member by member: what cannot be done comes ahead of a later name that is none.
        self.check([C, None], 0)
        self.check([S, C, S, None], 3)

    def test_values_of_all_kinds(self):
        for value in anything():
            self.check([value], 0)
            self.check([S, value], 1)
            self.check([S, C, S, value, C], 3)
            self.check([S, C, S, C, value], 4)

    def test_drawn_lists(self):
        for rng, book, f, account, _ in small_cases(307, 100):
            order = list(rng.choice(plain_orders(book, f, account)))
            if order:
                k = rng.randrange(len(order))
                order[k:k + rng.choice([0, 1, 1])] = rng.choices([*book.names(), "nothing"], k=rng.choice([0, 1]))
            number = self.plain_number(book, f, account, order)
            expected = None if number is None else (BadOrder, number)
            for function in (order_script, order_number, next_order):
                self.assertEqual(raised(function, book, f, account, order), expected)

    def plain_number(self, book, f, account, order):
        left = dict(zip(book.names(), account))
        for k, name in enumerate(order):
            if not left.get(name):
                return k
            script = script_of(book, account, order[:k + 1])
            if len(plain_walk(book, f, script)) <= len(script):
                return k
            left[name] -= 1 if left[name] > 0 else -1
        return len(order) if any(left.values()) else None


if __name__ == "__main__":
    unittest.main()
