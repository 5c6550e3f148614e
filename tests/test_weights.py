"""weights.py: [S7.1] to [S7.6], as far as they tell weights and keepers."""

import math
import random
import unittest

from eitherbarter.books import Book, joined_books, turned_book
from eitherbarter.errors import BadTree, Pumped
from eitherbarter.pumps import judge_pump
from eitherbarter.trees import tree_of
from eitherbarter.weights import is_keeper, judge_weights, least_keepers, tree_weights, weight, weights_of
from tests.helpers import (
    anything, coins, deep_tree, dependent, drawn_book, drawn_books, drawn_good_book, in_time, letters, money,
    plain_balance, plain_least, raised, ring, three,
)


def loose():
    """The book D of S7.2."""
    return Book(["x", "y", "z"], [("r", (-1, 2, 0)), ("s", (2, -1, -1))])


def crate(more=False):
    """The book of the barter k of S7.6, with a fourth good if asked for."""
    goods = ["a", "b", "c", "d"] if more else ["a", "b", "c"]
    return Book(goods, [("k", (-1, -2, 3, 0)[:len(goods)])])


def growing():
    """The book of the barters u, v and w of S7.6, with the good d, which no barter has."""
    return Book(["a", "b", "c", "d"], [("u", (-1, 2, 0, 0)), ("v", (2, -1, 0, 0)), ("w", (-1, 0, 1, 0))])


def rows_of(book):
    """The rows of the barters."""
    return [row for _, row in book.barters()]


def plain_is_even(book, numbers):
    """Whether the weight of each barter's row is 0."""
    return all(sum(a * b for a, b in zip(row, numbers)) == 0 for row in rows_of(book))


def weight_books(seed, many=60):
    """Drawn books of all sorts, some with few barters, so that there are many keepers, or many gains."""
    rng = random.Random(seed)
    books = drawn_books(seed, many)
    for goods, barters in ((5, 1), (6, 2), (6, 3), (4, 4), (5, 6), (3, 5)):
        for most in (1, 3, 10 ** 12 - 1):
            books.append(drawn_book(rng, goods, barters, rng.choice([0.4, 0.7, 1.0]), most))
    return books


class Weight(unittest.TestCase):
    def test_the_book_of_the_document(self):
        self.assertEqual(weight(three(), (7, 0, 0), (1, 2, 6)), 7)
        self.assertEqual(weight(three(), (1, 0, 1), (1, 2, 6)), 7)
        self.assertEqual(weight(three(), (-2, 1, 0), (1, 2, 6)), 0)
        self.assertEqual(weight(three(), (-2, 1, -5), (-1, 0, 3)), -13)
        self.assertEqual(weight(Book([], []), (), ()), 0)

    def test_all_of_one_lot_have_one_weight(self):
        rng = random.Random(311)
        for _ in range(40):
            book, _ = drawn_good_book(rng, rng.randint(1, 8))
            numbers = weights_of(book)
            row = plain_balance(book, [rng.randint(-9, 9) for _ in book.names()])
            self.assertEqual(weight(book, row, numbers), 0)
            stock = tuple(rng.randint(0, 10 ** 40 - 1) for _ in row)
            self.assertEqual(weight(book, stock, numbers), sum(a * b for a, b in zip(stock, numbers)))


class Keepers(unittest.TestCase):
    def check(self, book):
        found = least_keepers(book)
        self.assertEqual(found, plain_least(rows_of(book), len(book.goods())))
        for keeper in found:
            self.assertIs(is_keeper(book, keeper), True)
            self.assertIs(type(keeper), tuple)
        return found

    def test_the_examples(self):
        self.assertEqual(self.check(three()), [(1, 2, 6)])
        self.assertEqual(self.check(loose()), [(2, 1, 3)])
        self.assertEqual(self.check(crate()), [(0, 3, 2), (3, 0, 1)])
        self.assertEqual(self.check(crate(True)), [(0, 0, 0, 1), (0, 3, 2, 0), (3, 0, 1, 0)])
        self.assertEqual(self.check(Book(["a", "b"], [("u", (-1, 2)), ("v", (2, -1))])), [])
        self.assertEqual(self.check(growing()), [(0, 0, 0, 1)])
        for keeper in ((3, 0, 1), (0, 3, 2), (1, 1, 1)):
            self.assertIs(is_keeper(crate(), keeper), True)

    def test_no_goods_and_no_barters(self):
        self.assertEqual(self.check(Book([], [])), [])
        self.assertEqual(self.check(Book(["a"], [])), [(1,)])
        self.assertEqual(self.check(Book(["a", "b", "c"], [])), [(0, 0, 1), (0, 1, 0), (1, 0, 0)])
        self.assertEqual(weights_of(Book([], [])), ())
        self.assertIs(is_keeper(Book([], []), ()), False)
        self.assertIs(is_keeper(Book(["a", "b"], []), (2, 3)), True)

    def test_drawn_books(self):
        many = 0
        for book in weight_books(312):
            many += len(self.check(book)) > 3
        self.assertGreater(many, 10)

    def test_near_misses(self):
        for value in (
            (2, 4, 12), (0, 0, 0), (-1, -2, -6), (1, 2, 5), (1, 2), (1, 2, 6, 0), [1, 2, 6], (True, 2, 6), (), None,
            "abc", (1, 2, None), (1, 2, "6"), (1, (2,), 6), (1, 2, -6), 126, {0: 1},
        ):
            self.assertIs(is_keeper(three(), value), False, value)
        for value in ((6, 0, 2), (-3, 6, 3), (2, 2, 2), (0, 0, 0), (3, 0, True), (3, False, 1), (0, 3, 2, 0)):
            self.assertIs(is_keeper(crate(), value), False, value)
        for value in ((3, 3, 3), (3, 6, 5), (3, 0, 1), (1, 4, 3)):
            self.assertIs(is_keeper(crate(), value), math.gcd(*value) == 1 and plain_is_even(crate(), value), value)

    def test_sums_of_keepers(self):
        rng = random.Random(313)
        for book in weight_books(314, 40):
            keepers = least_keepers(book)
            if keepers:
                shares = [rng.choice([0, 1, 2, 5]) for _ in keepers]
                row = tuple(sum(a * number for a, number in zip(shares, column)) for column in zip(*keepers))
                divisor = math.gcd(*row)
                expected = any(row) and plain_is_even(book, row)
                self.assertIs(is_keeper(book, row), divisor == 1 and expected)
                if divisor:
                    self.assertIs(is_keeper(book, tuple(number // divisor for number in row)), expected)

    def test_values_of_all_kinds(self):
        for value in anything():
            for book in (three(), crate(), Book([], []), Book(["a", "b"], [("p", (-1, 1))])):
                self.assertIs(is_keeper(book, value), False)
                self.assertIs(judge_weights(book, value), value == () and type(value) is tuple and not book.goods())
            self.assertIs(is_keeper(three(), (1, 2, value)), False)
            self.assertIs(judge_weights(three(), (1, value, 6)), type(value) is int and value == 2)
            self.assertIs(is_keeper(Book(["a"], []), (value,)), type(value) is int and value == 1)
            self.assertIs(judge_weights(Book(["a"], []), (value,)), type(value) is int and value > 0)


class Weights(unittest.TestCase):
    def check(self, book):
        """Weights, or a pump."""
        kept = [any(column) for column in zip(*plain_least(rows_of(book), len(book.goods())))]
        if all(kept) and (kept or not book.goods()):
            numbers = weights_of(book)
            self.assertIs(type(numbers), tuple)
            self.assertEqual(len(numbers), len(book.goods()))
            self.assertTrue(all(type(number) is int and number > 0 for number in numbers))
            self.assertTrue(plain_is_even(book, numbers))
            self.assertIs(judge_weights(book, numbers), True)
            return True
        error, account = raised(weights_of, book)
        self.assertIs(error, Pumped)
        row = plain_balance(book, account)
        self.assertTrue(min(row) >= 0 < max(row), row)
        self.assertIs(judge_pump(book, account), True)
        return False

    def test_the_examples(self):
        for book in (three(), loose(), crate(), crate(True), money(), coins(), letters(), dependent()):
            self.assertTrue(self.check(book))
        for book in (growing(), Book(["a", "b"], [("u", (-1, 2)), ("v", (2, -1))]), Book(["a", "b"], [
            ("p", (-1, 1)), ("q", (1, -2)),
        ])):
            self.assertFalse(self.check(book))
        self.assertEqual(weights_of(Book([], [])), ())

    def test_drawn_books(self):
        told = [self.check(book) for book in weight_books(315)]
        self.assertGreater(sum(told), 20)
        self.assertGreater(len(told) - sum(told), 20)

    def test_good_books_have_weights(self):
        rng = random.Random(316)
        for _ in range(40):
            self.assertTrue(self.check(drawn_good_book(rng, rng.randint(1, 10))[0]))

    def test_judged(self):
        for value in ((1, 2, 6), (2, 4, 12), (10 ** 39, 2 * 10 ** 39, 6 * 10 ** 39)):
            self.assertIs(judge_weights(three(), value), True)
        for value in (
            (0, 0, 0), (-1, -2, -6), (1, 2, 5), (1, 2), (1, 2, 6, 1), [1, 2, 6], (True, 2, 6), (), None, (1, 2, "6"),
            (1, 2, None), 126,
        ):
            self.assertIs(judge_weights(three(), value), False, value)
        for value, expected in (((1, 1, 1), True), ((3, 0, 1), False), ((3, 3, 3), True), ((4, 1, 2), True),
                                ((-1, 2, 1), False), ((1, 1, True), False)):
            self.assertIs(judge_weights(crate(), value), expected, value)
        self.assertIs(judge_weights(Book([], []), ()), True)
        self.assertIs(judge_weights(Book(["a", "b"], []), (1, 7)), True)
        self.assertIs(judge_weights(Book(["a", "b"], [("u", (-1, 2)), ("v", (2, -1))]), (1, 1)), False)

    def test_books_at_the_limits(self):
        rng = random.Random(317)
        for barters in (1, 2, 3, 4, 5, 6, 8, 12):
            for share in (0.3, 1.0):
                book = drawn_book(rng, 10, barters, share, 10 ** 12 - 1)
                found = in_time(least_keepers, book)
                if found:
                    self.assertIs(in_time(is_keeper, book, found[0]), True)
                in_time(weights_of, book)
        # One barter with as many goods on both sides has the most least keepers.
        book = Book([f"g{k}" for k in range(10)], [("p", (-1, -2, -3, -4, -5, 6, 7, 8, 9, 10))])
        self.assertEqual(len(in_time(least_keepers, book)), 25)
        # Entries of unlike signs all over, so that in each step as many rays as can be come together.
        rows = [tuple(rng.choice([-1, 1]) * rng.randint(1, 10 ** 12 - 1) for _ in range(10)) for _ in range(4)]
        book = Book([f"g{k}" for k in range(10)], [(f"n{k}", row) for k, row in enumerate(rows)])
        self.assertEqual(in_time(least_keepers, book), plain_least(rows, 10))


class TreeWeights(unittest.TestCase):
    def check(self, book, tree):
        numbers = tree_weights(book, tree)
        self.assertIs(type(numbers), tuple)
        self.assertIs(judge_weights(book, numbers), True)
        if book.goods():
            self.assertEqual(math.gcd(*numbers), 1)
            self.assertIs(is_keeper(book, numbers), True)
            self.assertEqual(numbers, tuple(self.plain(book, tree)[good] for good in book.goods()))
        if len(book.names()) == len(book.goods()) - 1:
            self.assertEqual([numbers], least_keepers(book))

    def plain(self, book, tree):
        """The tree weights as a dict, as S7.5 tells them word for word."""
        if isinstance(tree, str):
            return {tree: 1}
        left, right = self.plain(book, tree[0]), self.plain(book, tree[1])
        if tree[2] is not None:
            row = dict(zip(book.goods(), dict(book.barters())[tree[2]]))
            m, n = (abs(sum(row[good] * number for good, number in side.items())) for side in (left, right))
            left = {good: number * n // math.gcd(m, n) for good, number in left.items()}
            right = {good: number * m // math.gcd(m, n) for good, number in right.items()}
        return {**left, **right}

    def test_the_examples(self):
        self.assertEqual(tree_weights(crate(), (("a", "b", None), "c", "k")), (1, 1, 1))
        self.assertEqual(tree_weights(three(), (("a", "b", "p"), "c", "q")), (1, 2, 6))
        self.assertEqual(tree_weights(three(), ("a", ("c", "b", "q"), "p")), (1, 2, 6))
        self.assertEqual(tree_weights(Book([], []), ()), ())
        self.assertEqual(tree_weights(Book(["a"], []), "a"), (1,))
        self.assertEqual(tree_weights(Book(["a", "b"], []), ("b", "a", None)), (1, 1))
        self.assertEqual(tree_weights(Book(["a", "b"], [("p", (-4, 6))]), ("a", "b", "p")), (3, 2))

    def test_trees_told_and_other_trees(self):
        rng = random.Random(318)
        for share in (0.4, 0.8, 1.0):
            for _ in range(30):
                book, tree = drawn_good_book(rng, rng.randint(1, 10), share, rng.choice([3, 9, 10 ** 12 - 1]))
                self.check(book, tree)
                self.check(book, tree_of(book))
                self.check(turned_book(book, book.names()), tree)
                self.check(joined_books(book, three()), (("a", ("c", "b", "q"), "p"), tree, None))
        self.check(crate(), ("c", ("b", "a", None), "k"))

    def test_what_is_no_tree(self):
        for tree, path in (
            (None, ()), (["a", "b", None], ()), ((("a", "b", "p"), "c"), ()), (("a", ("c", (), "q"), "p"), (1, 1)),
            ((("a", "b", 5), "c", "q"), (0, 2)), ((("a", "b", "p"), "c", ()), (2,)), (((), "c", None), (0,)),
            ((("a", 5, "p"), "C", None), (0, 1)),
            # These have the form of a tree, and are none of the book.
            ((), ()), ("a", ()), (("a", "b", "p"), ()), ((("a", "b", "q"), "c", "p"), ()),
            ((("a", "b", "p"), "c", None), ()), ((("a", "b", "p"), "x", "q"), ()), ((("a", "c", "p"), "b", "q"), ()),
            ((("a", "a", "p"), "c", "q"), ()), (((("a", "b", "p"), "c", "q"), "d", None), ()),
            ((("a", "b", "p"), "c", "r"), ()),
        ):
            self.assertEqual(raised(tree_weights, three(), tree), (BadTree, path), tree)
        self.assertEqual(raised(tree_weights, Book([], []), "a"), (BadTree, ()))
        self.assertEqual(raised(tree_weights, Book(["a"], []), ()), (BadTree, ()))
        self.assertEqual(raised(tree_weights, ring(2), ("g0", "g1", "n0")), (BadTree, ()))
        self.assertEqual(raised(tree_weights, three(), deep_tree(40)), (BadTree, ()))

    def test_values_of_all_kinds(self):
        for value in anything():
            if type(value) is not tuple or len(value) != 3:
                self.assertEqual(raised(tree_weights, three(), value), (BadTree, ()))
            word = value == "unknown"
            fork = type(value) is tuple and len(value) == 3
            path = () if word else (1, 0) if fork else (1,)
            self.assertEqual(raised(tree_weights, three(), (("a", "b", "p"), value, "q")), (BadTree, path))
            expected = () if word or value is None else (2,)
            self.assertEqual(raised(tree_weights, three(), (("a", "b", "p"), "c", value)), (BadTree, expected))
            empty = value == () and type(value) is tuple
            if not empty:
                self.assertIs(raised(tree_weights, Book([], []), value)[0], BadTree)


if __name__ == "__main__":
    unittest.main()
