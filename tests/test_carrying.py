"""carrying.py: [S5.1] to [S5.4] and [S5.6] to [S5.8]."""

import itertools
import random
import unittest

from eitherbarter.accounts import account_of, no_account_row
from eitherbarter.books import Book, turned_book
from eitherbarter.carrying import (
    begins, change_of, fewest_deeds, judge_run, judge_way, last_deeds, least_cost, next_deeds, run_of, way,
)
from eitherbarter.errors import BadAccount, BadDeed, NoAccount, NotGood
from eitherbarter.squares import judge_square, square_of
from tests.helpers import (
    anything, asked_deeds, dependent, drawn_account, drawn_book, drawn_books, drawn_carry, in_time, least_stock, money,
    nested, plain_balance, plain_cheapest, plain_deeds, plain_is_good, plain_is_square, plain_met, plain_step,
    plain_walk, plus, raised, ring, there_and_back, three,
)

WALK = [("split", 1), ("split", 1), ("change", 1), ("change", 1)]


def with_ends(f, g):
    """For each function of two stocks its further arguments, so that nothing else can be wrong."""
    return [
        (way, f, g), (fewest_deeds, f, g), (least_cost, f, g, [1, 1, 1]), (next_deeds, f, g), (last_deeds, f, g),
        (change_of, f, g, None), (begins, f, g, None), (judge_way, f, g, None), (judge_way, f, g, [None]),
    ]


class Ways(unittest.TestCase):
    def check(self, book, f, account, g):
        """All that is told of the account from f to g in a good book."""
        script = way(book, f, g)
        self.assertIs(type(script), list)
        self.assertEqual(sorted(script), sorted(asked_deeds(book, account)))
        stocks = plain_walk(book, f, script)
        self.assertEqual((len(stocks), stocks[-1]), (len(script) + 1, g))
        self.assertIsNone(judge_way(book, f, g, script))
        self.assertIsNone(judge_way(book, f, g, tuple(script)))
        self.assertEqual(fewest_deeds(book, f, g), len(script))
        prices = [3 * k + 1 for k in range(len(account))]
        total = sum(abs(number) * price for number, price in zip(account, prices))
        self.assertEqual(least_cost(book, f, g, prices), total)
        self.assertEqual(least_cost(book, f, g, tuple(prices)), total)
        asked = [(name, 1 if n > 0 else -1) for name, n in zip(book.names(), account) if n]
        ready = [deed for deed in asked if plain_step(book, f, deed) is not None]
        self.assertEqual(next_deeds(book, f, g), ready)
        last = [(name, ahead) for name, ahead in asked if plain_step(book, g, (name, -ahead)) is not None]
        self.assertEqual(last_deeds(book, f, g), last)
        self.assertEqual((bool(ready), bool(last)), (bool(script), bool(script)))
        for deed in plain_deeds(book):
            if plain_step(book, f, deed) is None:
                self.assertEqual(raised(change_of, book, f, g, deed), (BadDeed, 0))
                self.assertEqual(raised(begins, book, f, g, deed), (BadDeed, 0))
            else:
                self.assertEqual(change_of(book, f, g, deed), -1 if deed in asked else 1)
                self.assertIs(begins(book, f, g, deed), deed in asked)

    def test_the_example(self):
        book, f, g = money(), (0, 0, 2), (10, 2, 0)
        self.assertEqual(fewest_deeds(book, f, g), 4)
        self.assertEqual(next_deeds(book, f, g), [("split", 1)])
        self.assertEqual(next_deeds(book, (0, 2, 1), g), [("split", 1), ("change", 1)])
        self.assertEqual(last_deeds(book, f, g), [("split", 1), ("change", 1)])
        self.assertEqual(change_of(book, (5, 1, 1), g, ("change", -1)), 1)
        self.assertIs(begins(book, (5, 1, 1), g, ("change", -1)), False)
        self.assertEqual(next_deeds(book, g, f), [("split", -1), ("change", -1)])
        self.assertEqual(last_deeds(book, g, f), [("split", -1)])
        self.assertEqual(least_cost(book, f, g, [3, 0]), 6)
        self.check(book, f, (2, 2), g)
        self.check(book, g, (-2, -2), f)
        for stock in ((0, 2, 1), (0, 4, 0), (5, 1, 1), (5, 3, 0), (10, 0, 1)):
            self.check(book, f, account_of(book, f, stock), stock)
            self.check(book, stock, account_of(book, stock, g), g)

    def test_equal_ends_no_goods_and_no_barters(self):
        self.check(money(), (5, 1, 1), (0, 0), (5, 1, 1))
        self.check(money(), (0, 0, 0), (0, 0), (0, 0, 0))
        self.check(Book([], []), (), (), ())
        self.check(Book(["a", "b"], []), (2, 3), (), (2, 3))
        self.assertEqual(way(money(), (5, 1, 1), (5, 1, 1)), [])

    def test_drawn_accounts_of_sixty_deeds(self):
        rng = random.Random(261)
        for goods in list(range(2, 11)) * 3 + [10] * 10:
            book, f, account, g = drawn_carry(rng, goods, 60, 9, rng.choice([0, 0, 0, 2]))
            self.check(book, f, account, g)
            self.check(book, g, tuple(-number for number in account), f)

    def test_from_stocks_as_small_as_can_be(self):
        rng = random.Random(262)
        for _ in range(120):
            book, f, account, g = drawn_carry(rng, rng.randint(2, 6), rng.randint(1, 12), 3, 0, 1.0)
            self.check(book, f, account, g)
            turned = turned_book(book, rng.sample(book.names(), rng.randint(0, len(book.names()))))
            self.check(turned, f, account_of(turned, f, g), g)

    def test_against_walks_in_small_books(self):
        rng = random.Random(263)
        compared = 0
        for _ in range(60):
            book, f, _, _ = drawn_carry(rng, rng.randint(2, 4), rng.randint(0, 8), 3, 1)
            met = plain_met(book, f, bound=300)
            if met is None:
                continue
            prices = [rng.choice([0, 1, 5, rng.randint(0, 10 ** 12)]) for _ in book.names()]
            least = plain_cheapest(book, f, prices)
            for g in rng.sample(sorted(met), min(8, len(met))):
                self.assertEqual(fewest_deeds(book, f, g), met[g])
                self.assertEqual(least_cost(book, f, g, prices), least[g])
                self.check(book, f, account_of(book, f, g), g)
                self.check_changes(book, f, g, met)
                compared += 1
        self.assertGreater(compared, 150)

    def check_changes(self, book, f, g, met):
        """By how much each deed at f changes the fewest deeds that lead to g."""
        for deed in plain_deeds(book):
            behind = plain_step(book, f, deed)
            if behind is not None:
                change = plain_met(book, behind)[g] - met[g]
                self.assertEqual(change_of(book, f, g, deed), change)
                self.assertIs(begins(book, f, g, deed), change == -1)

    def test_accounts_of_any_number_of_deeds(self):
        great = 10 ** 6
        self.assertEqual(fewest_deeds(money(), (0, 0, great), (great * 10, 0, 0)), 3 * great)
        self.assertEqual(least_cost(money(), (great * 10, 0, 0), (0, 0, great), [10 ** 12, 1]), 10 ** 18 + 2 * great)

    def test_books_at_the_limits(self):
        rng = random.Random(264)
        for _ in range(10):
            book, f, account, g = drawn_carry(rng, 10, 60, 9, 0, 1.0)
            f, g = plus(f, (10 ** 5,) * 10), plus(g, (10 ** 5,) * 10)
            self.assertEqual(len(in_time(way, book, f, g)), sum(map(abs, account)))
            for function in (fewest_deeds, next_deeds, last_deeds):
                in_time(function, book, f, g)


class Errors(unittest.TestCase):
    def test_books_that_are_not_good(self):
        rng = random.Random(265)
        books = [there_and_back(), dependent(), ring(3), ring(5)]
        books += [book for book in drawn_books(265, 80) if not plain_is_good(book)]
        for book in books:
            square = square_of(book)
            self.assertTrue(plain_is_square(book, square))
            f = tuple(rng.randint(0, 3) for _ in book.goods())
            g = tuple(rng.randint(0, 3) for _ in book.goods())
            for ends in ((f, f), (f, g)):
                for function, *arguments in with_ends(*ends):
                    self.assertEqual(raised(function, book, *arguments), (NotGood, square), function)

    def test_ends_without_an_account(self):
        rng = random.Random(266)
        found = 0
        for _ in range(60):
            book, f, _, g = drawn_carry(rng, rng.randint(2, 8), 10)
            g = plus(g, tuple(rng.randint(0, 1) for _ in g))
            row = no_account_row(book, f, g)
            if row is not None:
                found += 1
                for function, *arguments in with_ends(f, g):
                    self.assertEqual(raised(function, book, *arguments), (NoAccount, row), function)
        self.assertGreater(found, 20)
        self.assertEqual(
            raised(way, Book(["a"], []), (0,), (1,)), (NoAccount, no_account_row(Book(["a"], []), (0,), (1,))),
        )

    def test_values_of_all_kinds_as_deeds(self):
        book, f, g = money(), (5, 1, 1), (10, 2, 0)
        for value in anything():
            for deed in (value, (value, 1), (value, value), [("change", -1)], ["change", -1], ("change", -1, 1)):
                self.assertEqual(raised(change_of, book, f, g, deed), (BadDeed, 0), deed)
                self.assertEqual(raised(begins, book, f, g, deed), (BadDeed, 0), deed)
            if type(value) is not int or value not in (1, -1):
                self.assertEqual(raised(change_of, book, f, g, ("change", value)), (BadDeed, 0))
        for deed in (("cent", 1), ("split", -1), ("change", True)):
            self.assertEqual(raised(begins, book, f, g, deed), (BadDeed, 0))


class JudgedWays(unittest.TestCase):
    def check(self, script, expected, f=(0, 0, 2), g=(10, 2, 0)):
        self.assertEqual(judge_way(money(), f, g, script), expected, script)
        if isinstance(script, list):
            self.assertEqual(judge_way(money(), f, g, tuple(script)), expected, script)

    def test_each_answer(self):
        self.check(WALK, None)
        self.check([WALK[0], WALK[2], WALK[1], WALK[3]], None)
        for script in (None, "ab", {}, 5, True, {"split": 1}, {1: ("split", 1)}):
            self.check(script, ("form",))
        self.check([("change", 1)], ("deed", 0))
        self.check(WALK + [None], ("deed", 4))
        self.check(WALK[:2] + [["change", 1]] + WALK[3:], ("deed", 2))
        self.check([("split", True)], ("deed", 0))
        self.check([], ("end",))
        self.check(WALK[:3], ("end",))
        self.check(WALK + [("change", 1)], ("end",))
        self.check([("split", 1), ("split", -1)] + WALK, ("deeds", 2))
        self.check(WALK + [("change", 1), ("change", -1)] * 3, ("deeds", 6))
        self.check([], None, (3, 3, 3), (3, 3, 3))
        self.check([("split", 1), ("split", -1)], ("deeds", 2), (3, 3, 3), (3, 3, 3))
        self.check([("split", 1)], ("end",), (3, 3, 3), (3, 3, 3))

    def test_each_answer_comes_ahead_of_later_ones(self):
        # What cannot be done is told ahead of the wrong end, and that ahead of too many deeds.
        self.check([("change", 1), ("split", 1)], ("deed", 0))
        self.check(WALK[:2] + [None, None], ("deed", 2))
        self.check([("split", 1), ("split", -1)] * 5, ("end",))
        self.check([("split", 1), ("split", -1)] * 5 + WALK, ("deeds", 10))
        self.check([("split", 1), ("split", -1)] * 5 + WALK + [("split", 1)], ("deed", 14))

    def test_values_of_all_kinds(self):
        for value in anything():
            if type(value) in (list, tuple):
                self.check(value, ("deed", 0) if value else ("end",))
            else:
                self.check(value, ("form",))
            self.check([WALK[0], value], ("deed", 1))
            self.check([("split", value)], ("end",) if type(value) is int and value == 1 else ("deed", 0))
        self.check(nested(40), ("deed", 0))

    def test_drawn_scripts(self):
        rng = random.Random(267)
        for _ in range(150):
            book, f, account, g = drawn_carry(rng, rng.randint(2, 6), rng.randint(1, 20), 3, rng.randint(0, 3))
            script = way(book, f, g)
            for _ in range(rng.randint(1, 2)):
                k = rng.randrange(len(script) + 1)
                deeds = plain_deeds(book)
                script[k:k + rng.choice([0, 0, 1])] = rng.choices(deeds, k=rng.choice([0, 1, 2])) if deeds else []
            if rng.random() < 0.3:
                rng.shuffle(script)
            stocks = plain_walk(book, f, script)
            if len(stocks) <= len(script):
                expected = ("deed", len(stocks) - 1)
            elif stocks[-1] != g:
                expected = ("end",)
            else:
                above = len(script) - sum(map(abs, account))
                self.assertEqual(above % 2, 0)
                expected = ("deeds", above) if above else None
            self.assertEqual(judge_way(book, f, g, script), expected)


def plain_is_run(book, f, account, value):
    """Whether a tuple that begins with carried or stuck, and a list of deeds, and pairs of words, is a run."""
    rows = dict(book.barters())
    left = asked_deeds(book, account)
    stocks = plain_walk(book, f, value[1])
    if len(stocks) <= len(value[1]):
        return False
    for deed in value[1]:
        if deed not in left:
            return False
        left.remove(deed)
    if value[0] == "carried":
        return not left and len(value) == 2
    h = stocks[-1]
    if not left or any(plain_step(book, h, deed) is not None for deed in left):
        return False
    names, goods = [name for name, _ in value[2]], [good for _, good in value[2]]
    if len(names) < 2 or len(set(names)) < len(names) or len(set(goods)) < len(goods):
        return False
    for k, name in enumerate(names):
        directions = [direction for other, direction in left if other == name]
        if not directions or goods[k] not in book.goods():
            return False
        own, before = book.goods().index(goods[k]), book.goods().index(goods[k - 1])
        if h[own] + directions[0] * rows[name][own] >= 0 or directions[0] * rows[name][before] <= 0:
            return False
    return True


def drawn_run_cases(seed, many):
    """Drawn books, good ones and others, with an account that leads from a small stock to a stock."""
    rng = random.Random(seed)
    for book in drawn_books(seed, many):
        account = drawn_account(rng, book, rng.randint(0, 20), rng.choice([0.7, 1.0]))
        f = tuple(number + rng.choice([0, 0, 0, 0, 3]) for number in least_stock(book, account))
        yield rng, book, f, account


class Runs(unittest.TestCase):
    def check(self, book, f, account):
        told = run_of(book, f, account)
        self.assertIs(type(told), tuple)
        self.assertIs(type(told[1]), list)
        self.assertTrue(plain_is_run(book, f, account, told), told)
        self.assertIs(judge_run(book, f, account, told), True)
        self.assertIs(judge_run(book, f, account, (told[0], tuple(told[1]), *told[2:])), True)
        if told[0] == "stuck":
            names, goods = (tuple(pair[k] for pair in told[2]) for k in (0, 1))
            self.assertIs(judge_square(book, (names, goods)), True)
            self.assertFalse(plain_is_good(book))
        return told

    def test_the_example(self):
        book = there_and_back()
        self.assertIn(run_of(book, (0, 0), (1, 1)), (
            ("stuck", [], (("p", "a"), ("q", "b"))), ("stuck", [], (("q", "b"), ("p", "a"))),
        ))
        for value in (("stuck", [], (("p", "a"), ("q", "b"))), ("stuck", [], (("q", "b"), ("p", "a")))):
            self.assertIs(judge_run(book, (0, 0), (1, 1), value), True)
        self.assertEqual(run_of(book, (1, 0), (1, 1)), ("carried", [("p", 1), ("q", 1)]))
        self.assertIs(judge_run(book, (1, 0), (1, 1), ("carried", [("p", 1), ("q", 1)])), True)
        self.assertIs(judge_run(book, (1, 0), (1, 1), ("carried", [("q", 1), ("p", 1)])), False)

    def test_good_books_carry_out_each_account(self):
        rng = random.Random(271)
        for _ in range(60):
            book, f, account, _ = drawn_carry(rng, rng.randint(1, 10), rng.randint(0, 60))
            self.assertEqual(self.check(book, f, account)[0], "carried")
        self.assertEqual(run_of(Book([], []), (), ()), ("carried", []))
        self.assertEqual(run_of(Book(["a"], []), (3,), ()), ("carried", []))
        self.assertEqual(run_of(ring(3), (0, 0, 0), (0, 0, 0)), ("carried", []))

    def test_drawn_books(self):
        words = {"carried": 0, "stuck": 0, "stuck later": 0}
        for _, book, f, account in drawn_run_cases(272, 700):
            told = self.check(book, f, account)
            words["stuck later" if told[0] == "stuck" and told[1] else told[0]] += 1
        self.assertGreater(min(words.values()), 15, words)

    def test_rounds_of_any_length(self):
        for many in range(2, 11):
            told = self.check(ring(many), (0,) * many, (1,) * many)
            self.assertEqual((told[0], len(told[2])), ("stuck", many))
            told = self.check(ring(many), (0,) * many, (-3,) * many)
            self.assertEqual((told[0], len(told[2])), ("stuck", many))
            for k in range(many):
                turned = told[2][k:] + told[2][:k]
                self.assertIs(judge_run(ring(many), (0,) * many, (-3,) * many, ("stuck", [], turned)), True)
                backward = turned[::-1]
                self.assertIs(judge_run(ring(many), (0,) * many, (-3,) * many, ("stuck", [], backward)), many == 2)
            self.assertEqual(self.check(ring(many), (1,) + (0,) * (many - 1), (1,) * many)[0], "carried")

    def test_all_values_in_small_books(self):
        book = there_and_back()
        pairs = [(name, good) for name in "pq" for good in "ab"]
        waits = [tuple(some) for size in range(4) for some in itertools.product(pairs, repeat=size)]
        deeds = plain_deeds(book)
        scripts = [list(some) for size in range(4) for some in itertools.product(deeds, repeat=size)]
        for f, account in (((0, 0), (1, 1)), ((1, 0), (1, 1)), ((0, 0), (2, 2)), ((0, 1), (1, 2)), ((1, 0), (-1, -1))):
            if min(plus(f, plain_balance(book, account))) < 0:
                continue
            for script in scripts:
                value = ("carried", script)
                self.assertIs(judge_run(book, f, account, value), plain_is_run(book, f, account, value), value)
                for some in waits if len(script) < 2 else waits[:25]:
                    value = ("stuck", script, some)
                    self.assertIs(judge_run(book, f, account, value), plain_is_run(book, f, account, value), value)

    def test_drawn_near_misses(self):
        for rng, book, f, account in drawn_run_cases(273, 250):
            told = run_of(book, f, account)
            script, deeds = list(told[1]), plain_deeds(book)
            if deeds and rng.random() < 0.6:
                k = rng.randrange(len(script) + 1)
                script[k:k + rng.choice([0, 1])] = rng.choices(deeds, k=rng.choice([0, 1, 1]))
            if rng.random() < 0.3:
                rng.shuffle(script)
            value = ("carried", script)
            self.assertIs(judge_run(book, f, account, value), plain_is_run(book, f, account, value))
            if told[0] == "stuck":
                waits = list(told[2])
                k, j = rng.randrange(len(waits)), rng.randrange(len(waits))
                waits[k] = rng.choice([(waits[k][0], waits[j][1]), (rng.choice(book.names()), waits[k][1]), waits[j]])
                for value in (("stuck", script, told[2]), ("stuck", list(told[1]), tuple(waits)),
                              ("stuck", list(told[1]), told[2][1:]), ("stuck", list(told[1]), told[2] * 2)):
                    self.assertIs(judge_run(book, f, account, value), plain_is_run(book, f, account, value), value)

    def test_what_is_no_run(self):
        book, waits = there_and_back(), (("p", "a"), ("q", "b"))
        for value in (
            ("stuck", []), ("carried", [], waits), ("stuck", [], waits, None), ["stuck", [], waits],
            ("Stuck", [], waits),
            ("stuck", None, waits), ("stuck", [], list(waits)), ("stuck", [], (["p", "a"], ("q", "b"))),
            ("stuck", [], (("p", "a"),)), ("stuck", [], ()), ("stuck", [], (("p", "a", 1), ("q", "b"))),
            ("stuck", [], (("p", "a"), ("p", "a"))), ("stuck", [], (("p", "b"), ("q", "a"))), ("stuck", [], None),
            ("stuck", [], (("p", "a"), ("q", "a"))), ("stuck", [], (("p", "a"), ("p", "b"))),
            ("stuck", [], (("a", "p"), ("b", "q"))), ("stuck", [], ((["p"], "a"), ("q", "b"))),
            ("stuck", (), waits * 2),
            ("stuck", [], (("p", "a"), ("q", "b"), ("p", "a"))), ("stuck", [], ((None, "a"), ("q", None))),
            ("carried", []), ("carried",), (), None, "stuck", (waits, [], "stuck"), ("stuck", waits, []), (0, []),
        ):
            self.assertIs(judge_run(book, (0, 0), (1, 1), value), False, value)
        self.assertIs(judge_run(book, (0, 0), (1, 1), ("stuck", (), waits)), True)
        for word in ("stuck", "Carried", "", None, 0, True, "carriedx", ("carried",)):
            self.assertIs(judge_run(book, (1, 0), (1, 1), (word, [("p", 1), ("q", 1)])), False)
        self.assertIs(judge_run(book, (1, 0), (1, 1), ("stuck", [("p", 1), ("q", 1)], waits)), False)
        # An account of noughts is carried out by the empty script alone.
        self.assertIs(judge_run(book, (0, 0), (0, 0), ("carried", [])), True)
        self.assertIs(judge_run(book, (0, 0), (0, 0), ("stuck", [], waits)), False)
        # Deeds that are taken back are none of the account.
        self.assertIs(judge_run(book, (1, 0), (1, 1), ("carried", [("p", 1), ("p", -1), ("p", 1), ("q", 1)])), False)

    def test_one_is_not_stuck_where_another_deed_can_be_done(self):
        book = Book(["a", "b", "c", "d"], [("p", (-1, 1, 0, 0)), ("q", (1, -1, 0, 0)), ("r", (0, 0, -1, 1))])
        waits = (("p", "a"), ("q", "b"))
        f, account = (0, 0, 1, 0), (1, 1, 1)
        self.assertIs(judge_run(book, f, account, ("stuck", [], waits)), False)
        self.assertIs(judge_run(book, f, account, ("stuck", [("r", 1)], waits)), True)
        self.assertEqual(self.check(book, f, account)[:2], ("stuck", [("r", 1)]))

    def test_each_barter_lacks_its_own_good(self):
        # There is just as much of x as p takes, so p does not wait for it.
        book = Book(["a", "b", "x"], [("p", (-1, 1, -2)), ("q", (1, -1, 2))])
        self.check(book, (0, 0, 2), (1, 1))
        for f, good, expected in (
            ((0, 0, 2), "a", True), ((0, 0, 2), "x", False), ((0, 0, 3), "x", False), ((0, 0, 1), "x", True),
            ((1, 0, 1), "x", True), ((1, 0, 1), "a", False), ((0, 0, 0), "a", True),
        ):
            for waits in ((("p", good), ("q", "b")), (("q", "b"), ("p", good))):
                self.assertIs(judge_run(book, f, (1, 1), ("stuck", [], waits)), expected, (f, waits))

    def test_values_of_all_kinds_as_runs(self):
        waits = (("p", "a"), ("q", "b"))
        for value in anything():
            empty = type(value) in (list, tuple) and not value
            for run, expected in (
                (value, False), ((value, []), False), (("carried", value), False), (("stuck", value, waits), empty),
                (("stuck", [], value), False), (("stuck", [value], waits), False), ((value, [], waits), False),
                (("stuck", [], (value, ("q", "b"))), False), (("stuck", [], (("p", value), ("q", "b"))), False),
                (("stuck", [], ((value, "a"), ("q", "b"))), False),
            ):
                self.assertIs(judge_run(there_and_back(), (0, 0), (1, 1), run), expected, run)
            self.assertIs(judge_run(Book([], []), (), (), ("carried", value)), empty)

    def test_wrong_accounts(self):
        book = there_and_back()
        for account, path in (
            (None, ()), ([1, 1], ()), ((1,), ()), ((1, 1, 1), ()), ((None, 1), (0,)), ((1, True), (1,)),
            ((1, "1"), (1,)),
            ((1, 0), ()), ((0, 1), ()), ((3, 2), ()), ((-1, 0), ()), ((10 ** 39, 0), ()), ((-1, None), (1,)),
            ((None, None), (0,)), ((5, [1]), (1,)),
        ):
            self.assertEqual(raised(run_of, book, (0, 0), account), (BadAccount, path), account)
            for value in (None, ("carried", [])):
                self.assertEqual(raised(judge_run, book, (0, 0), account, value), (BadAccount, path), account)
        self.assertIsNone(raised(run_of, book, (0, 0), (2, 2)))
        for value in anything():
            path = (0,) if type(value) is tuple and len(value) == 2 else ()
            self.assertEqual(raised(run_of, book, (0, 0), value), (BadAccount, path))
            number = type(value) is int and value == 0
            self.assertEqual(raised(judge_run, book, (0, 0), (0, value), None),
                             None if number else (BadAccount, () if type(value) is int else (1,)))

    def test_books_at_the_limits(self):
        rng = random.Random(274)
        for share in (0.2, 0.3, 0.5, 1.0):
            for _ in range(5):
                book = drawn_book(rng, 10, 12, share)
                account = drawn_account(rng, book, 60, 1.0)
                f = least_stock(book, account)
                told = in_time(run_of, book, f, account)
                self.assertTrue(plain_is_run(book, f, account, told))
                self.assertIs(in_time(judge_run, book, f, account, told), True)

    def test_the_book_of_part_3(self):
        self.assertEqual(self.check(three(), (7, 0, 0), (3, 1))[0], "carried")
        self.assertEqual(way(three(), (7, 0, 0), (1, 0, 1)), [("p", 1), ("p", 1), ("p", 1), ("q", 1)])


if __name__ == "__main__":
    unittest.main()
