"""changes.py: [S8.3] and [S8.4], and what [S8.10] tells of barters that are put in."""

import itertools
import random
import unittest

from eitherbarter.books import Book, with_barter, without_barter
from eitherbarter.chains import judge_chain
from eitherbarter.changes import are_free, can_put, free_pairs, judge_put, put_paper
from eitherbarter.errors import NotGood, UnknownName
from eitherbarter.squares import is_good_book
from eitherbarter.trees import judge_tree
from tests.helpers import (
    anything, drawn_books, drawn_good_book, drawn_row, in_time, letters, money, plain_chains, plain_is_good,
    plain_is_square, plain_is_tree, raised, ring, there_and_back, three,
)


def coins_and_leaf():
    """The coins of S8.10 with one good more."""
    return Book(
        ["penny", "dime", "dollar", "leaf"], [("dime", (-10, 1, 0, 0)), ("dollar", (0, -10, 1, 0))],
    )


def good_books(seed, many, goods):
    """Good books of at most so many goods."""
    rng = random.Random(seed)
    books = [three(), letters(), money(), coins_and_leaf(), Book([], []), Book(["a"], []), Book(["a", "b"], [])]
    while len(books) < many:
        books.append(drawn_good_book(rng, rng.randint(2, goods), rng.choice([0.3, 0.6, 0.9]))[0])
    return books


def pair_row(book, one, other):
    """A row that takes one of a good and gives one of another one."""
    return tuple(1 if good == one else -1 if good == other else 0 for good in book.goods())


def bad_books():
    """Bad books with a, b or g0, g1 among their goods."""
    return [there_and_back(), ring(3), ring(5)] + [book for book in drawn_books(291, 60) if not plain_is_good(book)]


class FreeGoods(unittest.TestCase):
    def check(self, book):
        """What is free of what, held against all chains and against a look at all lots of goods."""
        free = []
        for one, other in itertools.permutations(book.goods(), 2):
            chained = other in [chain[-1] for chain in plain_chains(book, one)]
            self.assertIs(are_free(book, one, other), not chained)
            longer = with_barter(book, "new", pair_row(book, one, other))
            self.assertIs(are_free(book, one, other), plain_is_good(longer))
            if not chained and book.goods().index(one) < book.goods().index(other):
                free.append((one, other))
        self.assertEqual(free_pairs(book), free)

    def test_the_example(self):
        coins = Book(["penny", "dime", "dollar"], [("dime", (-10, 1, 0)), ("dollar", (0, -10, 1))])
        self.assertEqual(free_pairs(coins), [])
        self.assertEqual(
            free_pairs(coins_and_leaf()), [("penny", "leaf"), ("dime", "leaf"), ("dollar", "leaf")],
        )
        self.assertIs(are_free(coins_and_leaf(), "leaf", "dime"), True)
        self.assertIs(are_free(coins_and_leaf(), "dollar", "penny"), False)
        self.assertEqual(free_pairs(letters()), [("a", "c"), ("a", "e"), ("b", "c"), ("b", "e")])

    def test_against_chains_and_lots_of_goods(self):
        for book in good_books(292, 60, 5):
            self.check(book)

    def test_the_order_of_the_pairs(self):
        book = Book(["d", "b", "a", "c"], [])
        self.assertEqual(
            free_pairs(book), [("d", "b"), ("d", "a"), ("d", "c"), ("b", "a"), ("b", "c"), ("a", "c")],
        )
        self.assertEqual(free_pairs(Book([], [])), [])

    def test_unknown_and_equal_goods(self):
        book = coins_and_leaf()
        for value in anything():
            self.assertEqual(raised(are_free, book, value, "leaf"), (UnknownName, value))
            self.assertEqual(raised(are_free, book, "leaf", value), (UnknownName, value))
            self.assertEqual(raised(are_free, book, value, "nothing"), (UnknownName, value))
            self.assertEqual(raised(are_free, book, value, value), (UnknownName, value))
        for good in book.goods():
            self.assertEqual(raised(are_free, book, good, good), (UnknownName, good))
        # A name of a barter is no good.
        self.assertEqual(raised(are_free, money(), "split", "cent"), (UnknownName, "split"))
        self.assertEqual(raised(are_free, money(), "cent", "change"), (UnknownName, "change"))


class BadBooks(unittest.TestCase):
    def test_not_good_comes_first(self):
        for book in bad_books():
            goods = book.goods()
            row = pair_row(book, goods[0], goods[1])
            for function, *arguments in (
                (are_free, goods[0], goods[1]), (are_free, goods[0], goods[0]), (are_free, None, "nothing"),
                (free_pairs,), (can_put, row), (put_paper, "new", row), (judge_put, "new", row, None),
                (judge_put, "new", row, ("chain", (goods[0],))),
            ):
                kind, square = raised(function, book, *arguments)
                self.assertIs(kind, NotGood)
                self.assertTrue(plain_is_square(book, square))


class PutIn(unittest.TestCase):
    def check(self, book, name, row):
        """The paper of a barter that is put in, held against a look at all lots of goods of the longer book."""
        longer = with_barter(book, name, row)
        stays = plain_is_good(longer)
        self.assertIs(can_put(book, row), stays)
        paper = put_paper(book, name, row)
        self.assertIs(type(paper), tuple)
        word, told = paper
        self.assertEqual(word, "tree" if stays else "chain")
        if stays:
            self.assertTrue(plain_is_tree(longer, told))
        else:
            self.assertIn(told, plain_chains(book, told[0]))
            self.assertIn(told[0], [good for good, entry in zip(book.goods(), row) if entry > 0])
            self.assertIn(told[-1], [good for good, entry in zip(book.goods(), row) if entry < 0])
        self.assertIs(judge_put(book, name, row, paper), True)
        self.check_near(book, name, row, word, told)
        return word

    def check_near(self, book, name, row, word, told):
        """Papers that are nearly right."""
        wrong = [(word, list(told)) if isinstance(told, tuple) else (word, [told]), [word, told]]
        wrong += [("chain" if word == "tree" else "tree", told), (word,), (word, told, told), told, word]
        wrong += [("other", told), (None, told), (word.upper(), told), (told, word)]
        if word == "chain":
            wrong += [(word, told[::-1]), (word, told[1:]), (word, told[:-1]), (word, told + told[-2:])]
            wrong += [(word, told + told[1:]), (word, told + told[::-1][1:])]
        else:
            left, right, fork = told
            wrong += [(word, (left, right, "nothing")), (word, (left, right)), (word, (left, left, fork))]
            wrong += [(word, left), (word, (left, told, fork)), (word, ((left, right, fork), "nothing", None))]
        for value in wrong:
            self.assertIs(judge_put(book, name, row, value), False, value)

    def test_the_example(self):
        book = coins_and_leaf()
        row = (1, 0, -1, 1)
        self.assertIs(can_put(book, row), False)
        self.assertEqual(put_paper(book, "new", row), ("chain", ("penny", "dime", "dime", "dollar", "dollar")))
        self.assertEqual(self.check(book, "new", row), "chain")
        self.assertIs(can_put(book, (1, 0, 1, -1)), True)
        self.assertEqual(self.check(book, "leaf", (1, 0, 1, -1)), "tree")

    def test_against_lots_of_goods(self):
        rng = random.Random(293)
        found = {"tree": 0, "chain": 0}
        for book in good_books(294, 120, 6):
            for _ in range(4):
                if len(book.goods()) > 1:
                    row = drawn_row(rng, len(book.goods()), rng.choice([0.2, 0.3, 0.5]))
                    found[self.check(book, "new", row)] += 1
        self.assertGreater(min(found.values()), 80)

    def test_a_name_that_is_a_good(self):
        for good in ("cent", "dime"):
            self.assertEqual(self.check(money(), good, (-1, 0, 2)), "chain")
        self.assertEqual(self.check(Book(["a", "b"], []), "a", (-1, 2)), "tree")

    def test_a_chain_may_be_any_one(self):
        # Of all chains of a book just those are papers that lead from a good given to one taken.
        rng = random.Random(295)
        right = 0
        for book in good_books(296, 40, 5):
            goods = book.goods()
            if len(goods) < 2:
                continue
            row = drawn_row(rng, len(goods), 0.6)
            for good in goods:
                for chain in plain_chains(book, good):
                    fits = row[goods.index(good)] > 0 > row[goods.index(chain[-1])]
                    self.assertIs(judge_put(book, "new", row, ("chain", chain)), fits)
                    right += fits
        self.assertGreater(right, 30)

    def test_trees_with_an_exchanged_leaf_or_name(self):
        book = Book(["a", "b", "c", "d"], [("p", (-1, 1, 0, 0)), ("q", (0, 0, -1, 1))])
        row = (-1, 0, 0, 1)
        tree = (("a", "b", "p"), ("c", "d", "q"), "new")
        self.assertIs(judge_put(book, "new", row, ("tree", tree)), True)
        self.assertIs(judge_put(book, "new", row, ("tree", (tree[1], tree[0], "new"))), True)
        for wrong in (
            (("a", "b", "q"), ("c", "d", "p"), "new"), (("a", "c", "p"), ("b", "d", "q"), "new"),
            (("a", "b", "new"), ("c", "d", "q"), "p"), (("a", "b", "p"), ("c", "d", "q"), None),
            (("a", "b", "p"), ("c", "a", "q"), "new"), (("a", "b", "p"), ("c", "d", None), "new"),
        ):
            self.assertIs(judge_put(book, "new", row, ("tree", wrong)), False, wrong)
        self.assertIs(judge_put(book, "other", row, ("tree", tree)), False)

    def test_chains_cut_and_with_a_barter_twice(self):
        book = letters()
        row = (1, 0, 0, -1, 0)
        chain = ("a", "p", "b", "q", "d")
        self.assertEqual(put_paper(book, "new", row), ("chain", chain))
        for wrong in (
            chain[::-1], chain[:3], chain[2:], ("a", "p", "b", "q", "c"), ("a", "p", "b", "p", "d"),
            ("a", "q", "d"), ("a", "p", "b", "q", "c", "q", "d"), ("a", "new", "d"), list(chain), (), ("a",), ("d",),
        ):
            self.assertIs(judge_put(book, "new", row, ("chain", wrong)), False, wrong)
        self.assertIs(judge_put(book, "new", row, ("tree", chain)), False)
        self.assertIs(judge_put(book, "new", row, ["chain", chain]), False)

    def test_values_of_all_kinds(self):
        for book, row in ((letters(), (1, 0, 0, -1, 0)), (letters(), (1, 0, -1, 0, 0)), (money(), (1, 0, -1))):
            for value in anything():
                for told in (value, ("tree", value), ("chain", value), (value, value), (value, ("a",))):
                    self.assertIs(judge_put(book, "new", row, told), False, told)

    def test_what_is_left_stays_good(self):
        for book in good_books(297, 60, 8):
            for name in book.names():
                self.assertIs(is_good_book(without_barter(book, name)), True)
            alone = [good for j, good in enumerate(book.goods()) if not any(row[j] for _, row in book.barters())]
            for good in alone:
                j = book.goods().index(good)
                kept = [other for other in book.goods() if other != good]
                barters = [(name, row[:j] + row[j + 1:]) for name, row in book.barters()]
                self.assertIs(is_good_book(Book(kept, barters)), True)

    def test_books_at_the_limits(self):
        rng = random.Random(298)
        for share in (0.5, 0.8, 1.0) * 5:
            book, _ = drawn_good_book(rng, 10, share, 99)
            in_time(free_pairs, book)
            for row_share in (0.2, 0.5, 1.0):
                row = drawn_row(rng, 10, row_share, 99)
                word, told = in_time(put_paper, book, "new", row)
                self.assertIs(in_time(can_put, book, row), word == "tree")
                judged = judge_tree(with_barter(book, "new", row), told) if word == "tree" else judge_chain(book, told)
                self.assertIs(judged, True)
                self.assertIs(in_time(judge_put, book, "new", row, (word, told)), True)


if __name__ == "__main__":
    unittest.main()
