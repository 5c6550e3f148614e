"""goals.py: plans behind scripts, dues, waste and accounts without some barters ([S10.2], [S10.5])."""

import itertools
import random
import unittest

from eitherbarter.accounts import judge_no_account, reduced
from eitherbarter.books import Book
from eitherbarter.errors import BadAccount, NoAccount, UnknownName
from eitherbarter.goals import dues_after, free_account, plan_after, wasted
from tests.helpers import (
    anything, coins, dependent, drawn_account, drawn_book, drawn_books, drawn_good_book, least_stock, money,
    plain_balance, plus, raised, ring, three,
)


class Plans(unittest.TestCase):
    def check(self, book, account, script):
        """The plan and the dues, held against what is counted name by name."""
        expected = []
        for k, name in enumerate(book.names()):
            expected.append(account[k] - script.count((name, 1)) + script.count((name, -1)))
        self.assertEqual(plan_after(book, account, script), tuple(expected))
        self.assertEqual(plan_after(book, account, tuple(script)), tuple(expected))
        dues = [sum(map(abs, plan_after(book, account, script[:k]))) for k in range(len(script) + 1)]
        self.assertEqual(dues_after(book, account, script), dues)
        self.assertEqual(dues_after(book, account, tuple(script)), dues)
        waste = wasted(book, account, script)
        self.assertEqual(waste, len(script) - dues[0] + dues[-1])
        vain = sum(dues[k + 1] > dues[k] for k in range(len(script)))
        self.assertEqual(waste, 2 * vain)
        for one, other in itertools.pairwise(dues):
            self.assertEqual(abs(one - other), 1)

    def test_the_example(self):
        book = money()
        self.assertEqual(plan_after(book, (2, 2), [("split", 1)]), (1, 2))
        self.assertEqual(plan_after(book, (1, 2), [("split", -1)]), (2, 2))
        script = [("split", 1), ("split", -1)]
        self.assertEqual(dues_after(book, (2, 2), script), [4, 3, 4])
        self.assertEqual(wasted(book, (2, 2), script), 2)
        self.assertEqual(wasted(book, (2, 2), [("split", 1)]), 0)
        self.assertEqual(wasted(book, (2, 2), [("change", -1)]), 2)

    def test_drawn_scripts(self):
        rng = random.Random(351)
        for book in drawn_books(352, 80):
            account = tuple(rng.randint(-4, 4) for _ in book.names())
            deeds = [(name, way) for name in book.names() for way in (1, -1)]
            self.check(book, account, [rng.choice(deeds) for _ in range(rng.randint(0, 30))] if deeds else [])

    def test_empty_scripts_and_books_without_barters(self):
        self.check(money(), (2, -3), [])
        self.check(Book([], []), (), [])
        self.assertEqual(plan_after(Book(["a"], []), (), []), ())
        self.assertEqual(dues_after(Book(["a"], []), (), []), [0])
        self.assertEqual(wasted(money(), (10 ** 40, -(10 ** 40)), []), 0)

    def test_scripts_that_cannot_be_done(self):
        # Whether the deeds can be done at any stock does not matter.
        self.check(ring(3), (0, 0, 0), [("n0", -1)] * 9 + [("n2", 1)] * 3)

    def test_numbers_of_any_size(self):
        great = 10 ** 39
        self.assertEqual(plan_after(money(), (great, -great), [("split", 1), ("change", 1)]), (great - 1, -great - 1))
        self.assertEqual(dues_after(money(), (great, -great), [("split", 1)]), [2 * great, 2 * great - 1])

    def test_what_is_no_account(self):
        book = money()
        for function in (plan_after, dues_after, wasted):
            for script in ([], [("split", 1)]):
                for value in [*anything(), (1,), (1, 2, 3), [1, 2]]:
                    if not (isinstance(value, tuple) and len(value) == 2):
                        self.assertEqual(raised(function, book, value, script), (BadAccount, ()), value)
                for value in anything():
                    if type(value) is not int:
                        self.assertEqual(raised(function, book, (value, value), script), (BadAccount, (0,)))
                        self.assertEqual(raised(function, book, (1, value), script), (BadAccount, (1,)))
                self.assertEqual(raised(function, book, (True, None), script), (BadAccount, (0,)))

    def test_lists_are_new(self):
        first = dues_after(money(), (2, 2), [])
        first.clear()
        self.assertEqual(dues_after(money(), (2, 2), []), [4])


def lesser_book(book, names):
    """The book without some barters."""
    return Book(book.goods(), [(name, row) for name, row in book.barters() if name not in names])


class FreeAccounts(unittest.TestCase):
    def check(self, book, f, g, names):
        """The account without some barters: it leads from f to g, and is reduced in the lesser book."""
        account = free_account(book, f, g, names)
        self.assertIs(type(account), tuple)
        self.assertEqual(plus(f, plain_balance(book, account)), g)
        told = dict(zip(book.names(), account))
        self.assertTrue(all(told[name] == 0 for name in names))
        lesser = lesser_book(book, names)
        cut = tuple(told[name] for name in lesser.names())
        self.assertEqual(reduced(lesser, cut), cut)
        self.assertEqual(free_account(book, f, g, tuple(names)), account)
        self.assertEqual(free_account(book, f, g, list(names)[::-1]), account)

    def test_examples(self):
        self.assertEqual(free_account(money(), (0, 0, 2), (10, 2, 0), []), (2, 2))
        self.assertEqual(free_account(money(), (0, 2, 2), (10, 0, 2), ["split"]), (0, 2))
        self.assertEqual(free_account(dependent(), (2, 0), (0, 3), []), (0, 2, 1))
        self.assertEqual(free_account(dependent(), (4, 0), (0, 6), ["s", "t"]), (1, 0, 0))
        self.assertEqual(free_account(dependent(), (4, 0), (0, 6), ["t"]), (1, 0, 0))
        self.check(dependent(), (2, 0), (0, 3), ["r"])
        self.check(Book([], []), (), (), [])
        self.check(three(), (1, 2, 3), (1, 2, 3), ["p", "q"])

    def test_drawn_books(self):
        rng = random.Random(353)
        for _ in range(80):
            book = drawn_book(rng, rng.randint(2, 6), rng.randint(1, 7), 0.6, 4)
            names = rng.sample(book.names(), rng.randint(0, len(book.names())))
            account = tuple(0 if name in names else rng.randint(-3, 3) for name in book.names())
            f = least_stock(book, account)
            self.check(book, f, plus(f, plain_balance(book, account)), names)

    def test_no_account_without_some_barters(self):
        rng = random.Random(354)
        found = 0
        for _ in range(80):
            book, _ = drawn_good_book(rng, rng.randint(2, 6), 1.0, 4)
            account = drawn_account(rng, book, 8)
            f = least_stock(book, account)
            g = plus(f, plain_balance(book, account))
            for name, number in zip(book.names(), account):
                # In a good book there is just one account.
                if number == 0:
                    self.check(book, f, g, [name])
                    continue
                kind, row = raised(free_account, book, f, g, [name])
                self.assertIs(kind, NoAccount)
                self.assertIs(judge_no_account(lesser_book(book, [name]), f, g, row), True)
                found += 1
        self.assertGreater(found, 60)

    def test_unknown_names_come_first(self):
        book = money()
        for value in anything():
            for names in ([value], ["split", value], [value, "nothing"], ["change", value, "split"]):
                self.assertEqual(raised(free_account, book, (0, 0, 2), (10, 2, 0), names), (UnknownName, value))
                self.assertEqual(raised(free_account, book, (0, 0, 2), (1, 1, 1), tuple(names)), (UnknownName, value))
        self.assertEqual(raised(free_account, book, (0, 0, 2), (1, 1, 1), ["cent"]), (UnknownName, "cent"))
        self.assertIs(raised(free_account, book, (0, 0, 2), (10, 2, 0), ["change"])[0], NoAccount)
        self.assertIs(raised(free_account, coins(), (5, 0, 0), (0, 1, 0), ["change", "pack"])[0], NoAccount)


if __name__ == "__main__":
    unittest.main()
