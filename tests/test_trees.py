"""trees.py: [S2.5] to [S2.7]."""

import random
import unittest

from eitherbarter.books import Book, joined_books, part_book, turned_book, with_barter, without_barter
from eitherbarter.errors import BadTree, NotGood
from eitherbarter.squares import is_good_book, square_of
from eitherbarter.trees import forks, judge_tree, leaves, tree_of
from tests.helpers import (
    anything, coins, deep_tree, drawn_book, drawn_books, drawn_good_book, letters, plain_forks, plain_is_good,
    plain_is_tree, plain_leaves,
)

TREE = ((("a", "b", "p"), ("c", "e", "r"), None), "d", "q")
EXCHANGED = ((("a", "b", "q"), ("c", "e", "r"), None), "d", "p")


def places(tree, at=()):
    """The paths of all parts of a tree, the whole among them."""
    found = [at]
    if isinstance(tree, tuple) and len(tree) == 3:
        for k in range(3):
            found.extend(places(tree[k], at + (k,)))
    return found


def part_at(tree, path):
    """The part of a tree to which a path leads."""
    for k in path:
        tree = tree[k]
    return tree


def put(tree, path, part):
    """The tree with another part at a path."""
    if not path:
        return part
    k = path[0]
    return tree[:k] + (put(tree[k], path[1:], part),) + tree[k + 1:]


class Judged(unittest.TestCase):
    def test_the_tree_of_the_document(self):
        self.assertIs(judge_tree(letters(), TREE), True)
        self.assertIs(judge_tree(letters(), EXCHANGED), False)

    def test_sides_may_be_exchanged(self):
        self.assertIs(judge_tree(letters(), ("d", (("c", "e", "r"), ("b", "a", "p"), None), "q")), True)
        self.assertIs(judge_tree(letters(), ("d", (("e", "c", "r"), ("a", "b", "p"), None), "q")), True)

    def test_near_misses(self):
        for value in (
            ((("a", "b", "p"), ("c", "e", "r"), None), "d", None),
            ((("a", "b", None), ("c", "e", "r"), None), "d", "q"),
            ((("a", "b", "p"), ("c", "e", "r"), "q"), "d", None), ((("a", "b", "p"), ("c", "e", "r"), "q"), "d", "q"),
            ((("a", "b", "p"), ("c", "a", "r"), None), "d", "q"), ((("a", "b", "p"), "c", None), "d", "q"),
            [(("a", "b", "p"), ("c", "e", "r"), None), "d", "q"], (TREE, (), None), (TREE, "a", None),
            ((["a", "b", "p"], ("c", "e", "r"), None), "d", "q"), (((), ("c", "e", "r"), None), "d", "q"),
            ((("a", "b", "p"), ("c", "e", "r"), ()), "d", "q"), ((("a", "b", "p"), ("c", "e", "r")), "d", "q"),
            ((("a", "b", "p"), ("c", "e", "r"), None), "d", "nothing"),
            ((("a", "b", "p"), ("c", "x", "r"), None), "d", "q"),
            ((("a", "b", "p"), ("c", "e", "r"), None, None), "d", "q"), (), "a", None,
            (("a", ("c", "e", "r"), None), ("d", "b", "q"), "p"), (("a", "b", "p"), (("c", "e", "r"), "d", "q"), None),
        ):
            self.assertIs(judge_tree(letters(), value), False, value)

    def test_small_books(self):
        self.assertIs(judge_tree(Book([], []), ()), True)
        self.assertIs(judge_tree(Book(["a"], []), "a"), True)
        self.assertIs(judge_tree(Book(["a"], []), ()), False)
        self.assertIs(judge_tree(Book(["a"], []), ("a",)), False)
        self.assertIs(judge_tree(Book(["a", "b"], []), ("b", "a", None)), True)
        self.assertIs(judge_tree(Book(["a", "b"], []), "a"), False)
        self.assertIs(judge_tree(Book(["a", "b"], [("p", (-1, 1))]), ("a", "b", "p")), True)
        self.assertIs(judge_tree(Book(["a", "b"], [("p", (-1, 1))]), ("a", "b", None)), False)

    def test_a_good_and_a_name_may_be_the_same_word(self):
        book = Book(["p", "q"], [("p", (-1, 1))])
        self.assertIs(judge_tree(book, ("q", "p", "p")), True)
        self.assertIs(judge_tree(book, ("q", "p", "q")), False)

    def test_values_of_all_kinds(self):
        for value in anything():
            self.assertIs(judge_tree(letters(), value), False)
            self.assertIs(judge_tree(Book([], []), value), value == () and type(value) is tuple)
            for path in places(TREE):
                spoiled = put(TREE, path, value)
                expected = path == (0, 2) and value is None
                self.assertIs(judge_tree(letters(), spoiled), expected, spoiled)
        self.assertIs(judge_tree(letters(), deep_tree(40)), False)

    def test_a_value_of_many_equal_parts(self):
        value = "a"
        for _ in range(40):
            value = (value, value, None)
        self.assertIs(judge_tree(letters(), value), False)

    def test_drawn_near_misses(self):
        rng = random.Random(81)
        for _ in range(150):
            book, tree = drawn_good_book(rng, rng.randint(2, 7))
            self.assertIs(judge_tree(book, tree), True)
            words = [*book.goods(), *book.names(), None]
            for _ in range(6):
                path = rng.choice(places(tree))
                spoiled = put(tree, path, part_at(tree, rng.choice(places(tree))))
                if rng.random() < 0.5:
                    spoiled = put(tree, path, rng.choice(words))
                if None in plain_leaves(spoiled):
                    self.assertIs(judge_tree(book, spoiled), False)
                    continue
                fits = all(type(name) in (str, type(None)) for name, _, _ in plain_forks(spoiled))
                expected = fits and plain_is_tree(book, spoiled)
                self.assertIs(judge_tree(book, spoiled), expected, (book.barters(), spoiled))
            other, first = rng.choice(places(tree)), rng.choice(places(tree))
            if other[:len(first)] != first and first[:len(other)] != other:
                swapped = put(put(tree, first, part_at(tree, other)), other, part_at(tree, first))
                if None not in plain_leaves(swapped) and all(
                    type(name) in (str, type(None)) for name, _, _ in plain_forks(swapped)
                ):
                    self.assertIs(judge_tree(book, swapped), plain_is_tree(book, swapped), swapped)


class Told(unittest.TestCase):
    def check(self, book):
        if plain_is_good(book):
            tree = tree_of(book)
            self.assertTrue(plain_is_tree(book, tree), tree)
            self.assertIs(judge_tree(book, tree), True)
            if book.goods():
                self.assertEqual(sorted(leaves(tree)), sorted(book.goods()))
            return
        with self.assertRaises(NotGood) as caught:
            tree_of(book)
        self.assertEqual(caught.exception.square, square_of(book))

    def test_examples(self):
        self.check(letters())
        self.check(coins())
        self.assertEqual(tree_of(Book([], [])), ())
        self.assertEqual(tree_of(Book(["a"], [])), "a")
        self.assertIn(tree_of(Book(["a", "b"], [])), (("a", "b", None), ("b", "a", None)))
        self.assertIn(tree_of(Book(["a", "b"], [("p", (-1, 1))])), (("a", "b", "p"), ("b", "a", "p")))

    def test_books_without_barters(self):
        for many in range(1, 11):
            self.check(Book([f"g{k}" for k in range(many)], []))

    def test_drawn_books(self):
        for book in drawn_books(82, 300, 7, 7):
            self.check(book)

    def test_books_at_the_limits(self):
        rng = random.Random(83)
        for share in (0.2, 0.3, 0.6, 1.0):
            self.check(drawn_book(rng, 10, 12, share))
        for share in (0.5, 0.8, 1.0):
            for _ in range(10):
                book, tree = drawn_good_book(rng, 10, share)
                self.assertIs(judge_tree(book, tree), True)
                self.check(book)

    def test_several_goods_on_both_sides(self):
        book = Book(
            ["a", "b", "c", "d", "e", "f"],
            [("p", (-1, -2, 3, 4, 0, 0)), ("q", (1, 0, 0, 0, -1, 0)), ("r", (0, 0, -1, 0, 0, 2))],
        )
        self.check(book)
        self.check(Book(["a", "b", "c", "d"], [("p", (-1, -1, 1, 1))]))

    def test_parts_turned_about_and_joined(self):
        rng = random.Random(84)
        for _ in range(60):
            book, tree = drawn_good_book(rng, rng.randint(2, 8))
            turned = turned_book(book, rng.sample(book.names(), rng.randint(0, len(book.names()))))
            self.assertIs(judge_tree(turned, tree), True)
            self.check(turned)
            self.check(part_book(book, rng.sample(book.goods(), rng.randint(0, len(book.goods())))))
            self.check(joined_books(book, letters()))
            self.assertIs(judge_tree(joined_books(book, letters()), (TREE, tree, None)), True)
            for name in book.names()[:2]:
                self.check(without_barter(book, name))
            row = [0] * len(book.goods())
            row[0], row[-1] = 1, -2
            self.check(with_barter(book, "more", tuple(row)))

    def test_a_bridge_between_two_good_books(self):
        rng = random.Random(85)
        for _ in range(40):
            book, tree = drawn_good_book(rng, 5)
            row = tuple(-rng.randint(0, 1) for _ in range(4)) + (-1, 1) + tuple(rng.randint(0, 1) for _ in range(4))
            bridged = with_barter(joined_books(book, letters()), "bridge", row)
            self.assertIs(judge_tree(bridged, (tree, TREE, "bridge")), True)
            self.assertIs(is_good_book(bridged), True)
            self.check(bridged)


class LeavesAndForks(unittest.TestCase):
    def test_the_tree_of_the_document(self):
        self.assertEqual(leaves(TREE), ["a", "b", "c", "e", "d"])
        self.assertEqual(forks(TREE), [
            ("q", ("a", "b", "c", "e"), ("d",)), (None, ("a", "b"), ("c", "e")), ("p", ("a",), ("b",)),
            ("r", ("c",), ("e",)),
        ])

    def test_small_trees(self):
        self.assertEqual((leaves(()), forks(())), ([], []))
        self.assertEqual((leaves("a"), forks("a")), (["a"], []))
        self.assertEqual((leaves(("a", "a", "a")), forks(("a", "a", "a"))), (["a", "a"], [("a", ("a",), ("a",))]))

    def test_the_order_of_forks(self):
        tree = (("a", ("b", "c", "x"), "y"), (("d", "e", None), "f", "z"), "w")
        self.assertEqual([name for name, _, _ in forks(tree)], ["w", "y", "x", "z", None])
        self.assertEqual(forks(tree)[0], ("w", ("a", "b", "c"), ("d", "e", "f")))

    def test_drawn_trees(self):
        rng = random.Random(86)
        for _ in range(80):
            book, tree = drawn_good_book(rng, rng.randint(1, 10))
            self.assertEqual(leaves(tree), plain_leaves(tree))
            self.assertEqual(forks(tree), plain_forks(tree))
            self.assertEqual(len(forks(tree)), len(book.goods()) - 1)

    def test_forty_deep(self):
        tree = deep_tree(40)
        self.assertEqual(leaves(tree), plain_leaves(tree))
        self.assertEqual(forks(tree), plain_forks(tree))
        self.assertEqual(self.path(put(tree, (0, 1) * 20, 7)), (0, 1) * 20)

    def path(self, value):
        """The path that both functions tell, or None."""
        paths = []
        for function in (leaves, forks):
            try:
                function(value)
                paths.append(None)
            except BadTree as error:
                self.assertIs(type(error.path), tuple)
                paths.append(error.path)
        self.assertEqual(paths[0], paths[1])
        return paths[0]

    def test_each_path(self):
        for value, path in (
            ((), None), ("a", None), (("a", "b", None), None), (("a", "b", "c"), None),
            (None, ()), ("A", ()), (1, ()), ([], ()), (["a", "b", None], ()), (("a", "b"), ()), (("a",), ()),
            (("a", "b", None, None), ()), ("abcdefghijklm", ()), (((),), ()),
            (((), "b", None), (0,)), (("a", (), None), (1,)), (((), (), None), (0,)), ((1, "b", None), (0,)),
            (("a", None, None), (1,)), (("a", "b", ()), (2,)), (("a", "b", 0), (2,)), (("a", "b", "B"), (2,)),
            (("a", "b", ("c",)), (2,)), (("a", "b", False), (2,)), (("a", "b", ""), (2,)),
            ((("a", (), None), "b", None), (0, 1)), (("a", ("b", "c", 1), None), (1, 2)),
            (("a", (("b", "c", None), ["d"], None), None), (1, 1)),
            ((("a", "b", 1), (), 2), (0, 2)), ((("a", (), 1), 1, 2), (0, 1)), (("a", ("b", (), 1), 2), (1, 1)),
            ((("a", "b"), "c", 3), (0,)), (("a", ("b", "c"), 3), (1,)), ((("a", "b", None), "c", 3), (2,)),
        ):
            self.assertEqual(self.path(value), path, value)

    def test_the_first_of_two_wrong_parts(self):
        tree = (("a", ("b", "c", "x"), "y"), (("d", "e", None), "f", "z"), "w")
        order = [path for path in places(tree)]
        for k, first in enumerate(order):
            for later in order[k + 1:]:
                if later[:len(first)] != first:
                    self.assertEqual(self.path(put(put(tree, later, ()), first, 5)), first)
        for path in order:
            self.assertEqual(self.path(put(tree, path, 5)), path)
            self.assertEqual(self.path(put(tree, path, True)), path)
            self.assertEqual(self.path(put(tree, path, ())), path if path else None)

    def test_values_of_all_kinds(self):
        for value in anything():
            is_word = value == "unknown"
            is_fork = type(value) is tuple and len(value) == 3
            if not is_fork:
                self.assertEqual(self.path(value), None if is_word or value == () and type(value) is tuple else ())
            self.assertEqual(self.path((value, "b", None)) is None, is_word)
            self.assertEqual(self.path(("a", value, None)) is None, is_word)
            self.assertEqual(self.path(("a", "b", value)), None if value is None or is_word else (2,))
        self.assertEqual(self.path((None, None, None)), (0,))
        self.assertEqual(self.path(((), (), None)), (0,))


if __name__ == "__main__":
    unittest.main()
