"""makers.py: [S8.5] to [S8.9], and the numbered tree in [S8.10]."""

import itertools
import random
import unittest

from eitherbarter.books import Book, joined_books
from eitherbarter.breaking import breaking, judge_breaking
from eitherbarter.errors import BadBook, BadMade, NotGood
from eitherbarter.makers import (
    book_of_boxes, book_of_coins, book_of_tree, boxes_tree, bridged_books, coins_tree, numbered_form, plain_tree,
)
from eitherbarter.squares import is_good_book
from eitherbarter.trees import judge_tree, tree_of
from tests.helpers import (
    anything, drawn_books, drawn_good_book, in_time, letters, money, nested, plain_is_good, plain_is_square,
    plain_is_tree, raised, ring, there_and_back, three,
)

CRATE = [("nail", None), ("plank", None), ("crate", (("nail", 8), ("plank", 6)))]
COINS = [("penny", None), ("dime", 10), ("dollar", 10)]
FORKED = (("b", "a", None), "c", ("p", (("a", 2),), (("c", 1),)))


def not_pairs():
    """Values that are no tuples with two members."""
    return [value for value in anything() if not (isinstance(value, tuple) and len(value) == 2)]


def not_counts():
    """Values that are no integers of at least 1."""
    return [value for value in anything() if type(value) is not int or value < 1]


def not_tuples():
    """Values that are no tuples with at least one member."""
    return [value for value in anything() if not (isinstance(value, tuple) and value)]


class Boxes(unittest.TestCase):
    def check(self, kinds):
        """The book of boxes and the made tree."""
        book = book_of_boxes(kinds)
        goods = [kind for kind, _ in kinds]
        self.assertEqual(book.goods(), goods)
        barters = []
        for kind, packing in kinds:
            if packing is not None:
                row = [0] * len(goods)
                row[goods.index(kind)] = 1
                for earlier, many in packing:
                    row[goods.index(earlier)] = -many
                barters.append((kind, tuple(row)))
        self.assertEqual(book.barters(), barters)
        self.assertTrue(plain_is_good(book))
        tree = boxes_tree(kinds)
        self.assertTrue(plain_is_tree(book, tree))
        self.assertIs(judge_tree(book, tree), True)
        expected = kinds[0][0] if kinds else ()
        for kind, packing in kinds[1:]:
            expected = (expected, kind, None if packing is None else kind)
        self.assertEqual(tree, expected)
        return book

    def wrong(self, kinds, *path):
        for function in (book_of_boxes, boxes_tree):
            self.assertEqual(raised(function, kinds), (BadMade, path), kinds)
            if isinstance(kinds, list):
                self.assertEqual(raised(function, tuple(kinds)), (BadMade, path), kinds)

    def test_the_example(self):
        self.assertEqual(boxes_tree(CRATE), (("nail", "plank", None), "crate", "crate"))
        self.assertEqual(
            self.check(CRATE), Book(["nail", "plank", "crate"], [("crate", (-8, -6, 1))]),
        )

    def test_no_kinds_one_kind_lists_and_tuples(self):
        for kinds in ([], (), [("a", None)], (("a", None),), CRATE, tuple(CRATE)):
            self.check(kinds)
        self.assertEqual(book_of_boxes([]), Book([], []))
        self.assertEqual(boxes_tree([]), ())
        self.assertEqual(boxes_tree([("a", None)]), "a")

    def test_drawn_boxes(self):
        rng = random.Random(301)
        for _ in range(150):
            kinds = []
            for k in range(rng.randint(0, 8)):
                earlier = rng.sample([kind for kind, _ in kinds], rng.randint(0, min(4, k)))
                packing = tuple((kind, rng.randint(1, 99)) for kind in earlier)
                kinds.append((f"k{k}", packing if packing and rng.random() < 0.8 else None))
            self.check(kinds)

    def test_each_path(self):
        for value in anything():
            if not isinstance(value, (list, tuple)):
                self.wrong(value)
        for value in not_pairs():
            self.wrong([("a", None), value], 1)
            self.wrong([("a", None), ("b", (("a", 1), value))], 1, 1, 1)
        for value in anything():
            if value != "unknown":
                self.wrong([("a", None), (value, None)], 1, 0)
            self.wrong([("a", None), ("b", ((value, 1),))], 1, 1, 0, 0)
        for value in not_tuples():
            if value is not None:
                self.wrong([("a", None), ("b", value)], 1, 1)
        for value in not_counts():
            self.wrong([("a", None), ("b", (("a", value),))], 1, 1, 0, 1)
        self.wrong([("a", None), ("a", None)], 1, 0)
        self.wrong([("a", ())], 0, 1)
        self.wrong([("a", (("a", 1),))], 0, 1, 0, 0)
        self.wrong([("a", (("b", 1),)), ("b", None)], 0, 1, 0, 0)
        self.wrong([("a", None), ("b", (("a", 1), ("a", 1)))], 1, 1, 1, 0)
        self.wrong([("a", None), ["b", None]], 1)
        self.wrong([("a", None), ("b", [("a", 1)])], 1, 1)
        self.wrong([("a", None), ("b", (["a", 1],))], 1, 1, 0)
        self.wrong([("a", None), ("b", None, None)], 1)

    def test_the_first_of_several_wrong_parts(self):
        faults = [
            ([("A", None)], (0,)), ([("b", (("a", 0),))], (1, 0, 1)), ([("b", (("c", 0), 5))], (1, 0, 0)),
            ([("b", (5, ("c", 0)))], (1, 0)), ([("b", (("a", 1), ("a", 0)))], (1, 1, 0)), ([("a", 5)], (0,)),
            ([("b", 5)], (1,)), ([5], ()), ([("B", 5)], (0,)),
        ]
        for (one, path), (other, _) in itertools.product(faults, faults):
            self.wrong([("a", None)] + one + other, 1, *path)
            self.wrong([("a", None), ("d", (("a", 2),))] + one + other + [("d", None)], 2, *path)


class Coins(unittest.TestCase):
    def wrong(self, coins, *path):
        for function in (book_of_coins, coins_tree):
            self.assertEqual(raised(function, coins), (BadMade, path), coins)
            if isinstance(coins, list):
                self.assertEqual(raised(function, tuple(coins)), (BadMade, path), coins)

    def test_the_example(self):
        book = book_of_coins(COINS)
        self.assertEqual(
            book, Book(["penny", "dime", "dollar"], [("dime", (-10, 1, 0)), ("dollar", (0, -10, 1))]),
        )
        self.assertEqual(coins_tree(COINS), (("penny", "dime", "dime"), "dollar", "dollar"))

    def test_coins_are_boxes(self):
        rng = random.Random(302)
        for many in range(11):
            for kind in (list, tuple):
                coins = [(f"k{k}", rng.randint(1, 99) if k else None) for k in range(many)]
                boxes = [(name, ((f"k{k - 1}", count),) if k else None) for k, (name, count) in enumerate(coins)]
                book = book_of_coins(kind(coins))
                self.assertEqual(book, book_of_boxes(boxes))
                self.assertEqual(coins_tree(kind(coins)), boxes_tree(boxes))
                self.assertTrue(plain_is_tree(book, coins_tree(kind(coins))))
        self.assertEqual((book_of_coins([]), coins_tree([])), (Book([], []), ()))
        self.assertEqual((book_of_coins([("a", None)]), coins_tree([("a", None)])), (Book(["a"], []), "a"))

    def test_each_path(self):
        for value in anything():
            if not isinstance(value, (list, tuple)):
                self.wrong(value)
            if value is not None:
                self.wrong([("a", value)], 0, 1)
            if value != "unknown":
                self.wrong([("a", None), (value, 1)], 1, 0)
        for value in not_pairs():
            self.wrong([value], 0)
            self.wrong([("a", None), value], 1)
        for value in not_counts():
            self.wrong([("a", None), ("b", value)], 1, 1)
        self.wrong([("a", None), ("a", 1)], 1, 0)
        self.wrong([("a", None), ("b", 2), ("a", 0)], 2, 0)
        self.wrong([("a", None), ["b", 2]], 1)
        self.wrong([("a", 1), ("b", 2)], 0, 1)
        self.wrong([("a", None), ("b", None)], 1, 1)

    def test_the_first_of_several_wrong_parts(self):
        faults = [(("b", 0), (1,)), (("B", 0), (0,)), (("a", 5), (0,)), (5, ()), (["b", 1], ())]
        for (one, path), (other, _) in itertools.product(faults, faults):
            self.wrong([("a", None), one, other], 1, *path)
            self.wrong([("a", None), ("d", 2), one, other], 2, *path)


def plain_numbered(rng, words, names, share=0.8, most=99):
    """A drawn numbered tree of some words, with names that are used up."""
    if len(words) == 1:
        return words[0]
    cut = rng.randint(1, len(words) - 1)
    left, right = words[:cut], words[cut:]
    parts = plain_numbered(rng, left, names, share, most), plain_numbered(rng, right, names, share, most)
    if rng.random() > share:
        return (*parts, None)
    sides = []
    for side in (left, right):
        goods = rng.sample(side, rng.randint(1, min(3, len(side))))
        sides.append(tuple((good, rng.randint(1, most)) for good in goods))
    return (*parts, (names.pop(), *sides))


def told_barters(value):
    """The list of the triples at the forks: left, right, and then the fork itself."""
    if not isinstance(value, tuple) or not value:
        return []
    return told_barters(value[0]) + told_barters(value[1]) + ([] if value[2] is None else [value[2]])


def told_goods(value):
    """The goods of a numbered tree from left to right."""
    if not isinstance(value, tuple):
        return [value]
    return told_goods(value[0]) + told_goods(value[1]) if value else []


def as_numbers(row, goods):
    """What a row has, by goods."""
    return {good: entry for good, entry in zip(goods, row) if entry}


class NumberedTrees(unittest.TestCase):
    def check(self, value):
        """The book of a numbered tree, and its tree."""
        book = book_of_tree(value)
        self.assertEqual(book.goods(), told_goods(value))
        self.assertEqual(book.names(), [name for name, _, _ in told_barters(value)])
        for name, taken, given in told_barters(value):
            numbers = {**{good: -many for good, many in taken}, **dict(given)}
            self.assertEqual(as_numbers(book.row(name), book.goods()), numbers)
        self.assertTrue(plain_is_good(book))
        self.assertTrue(plain_is_tree(book, plain_tree(value)))
        self.assertEqual(plain_tree(value), self.named(value))
        return book

    def named(self, value):
        if not isinstance(value, tuple) or not value:
            return value
        return (self.named(value[0]), self.named(value[1]), value[2] and value[2][0])

    def test_the_example(self):
        self.assertEqual(self.check(FORKED), Book(["b", "a", "c"], [("p", (0, -2, 1))]))
        self.assertEqual(plain_tree(FORKED), (("b", "a", None), "c", "p"))

    def test_the_empty_tree_and_a_good_alone(self):
        self.assertEqual(self.check(()), Book([], []))
        self.assertEqual(self.check("a"), Book(["a"], []))
        self.assertEqual((plain_tree(()), plain_tree("a")), ((), "a"))

    def test_the_order_of_goods_and_barters(self):
        value = (
            (("z", "y", ("n3", (("z", 1),), (("y", 2),))), "x", ("n1", (("y", 3),), (("x", 4),))),
            ("w", "v", ("n2", (("w", 5),), (("v", 6),))), ("n0", (("x", 7), ("z", 8)), (("w", 9),)),
        )
        book = self.check(value)
        self.assertEqual(book.goods(), ["z", "y", "x", "w", "v"])
        self.assertEqual(book.names(), ["n3", "n1", "n2", "n0"])
        self.assertEqual(book.row("n0"), (-8, 0, -7, 9, 0))

    def test_drawn_trees(self):
        rng = random.Random(303)
        for _ in range(150):
            words = [f"g{j}" for j in range(rng.randint(1, 8))]
            rng.shuffle(words)
            # Goods and barters may have the same words.
            names = rng.sample(words + [f"n{k}" for k in range(8)], 8)
            self.check(plain_numbered(rng, words, names, rng.choice([0.4, 0.8, 1.0])))

    def wrong(self, value, *path):
        for function in (book_of_tree, plain_tree):
            self.assertEqual(raised(function, value), (BadMade, path), value)

    def test_each_path(self):
        for value in anything():
            # The first member of each tuple with three members is wrong itself.
            inner = (0,) if isinstance(value, tuple) and len(value) == 3 else ()
            if value != "unknown":
                if value != ():
                    self.wrong(value, *inner)
                self.wrong((value, "b", None), 0, *inner)
                self.wrong(("a", value, None), 1, *inner)
                self.wrong(("a", "b", (value, (("a", 1),), (("b", 1),))), 2, 0)
            if value is not None:
                self.wrong(("a", "b", value), 2, *inner)
        for value in not_tuples():
            self.wrong(("a", "b", ("p", value, (("b", 1),))), 2, 1)
            self.wrong(("a", "b", ("p", (("a", 1),), value)), 2, 2)
        for value in not_pairs():
            self.wrong(("a", "b", ("p", (("a", 1), value), (("b", 1),))), 2, 1, 1)
            self.wrong(("a", "b", ("p", (("a", 1),), (value, ("b", 1)))), 2, 2, 0)
        for value in [*anything(), "b"]:
            self.wrong(("a", "b", ("p", ((value, 1),), (("b", 1),))), 2, 1, 0, 0)
        for value in [*anything(), "a"]:
            self.wrong(("a", "b", ("p", (("a", 1),), (("b", 1), (value, 1)))), 2, 2, 1, 0)
        for value in not_counts():
            self.wrong(("a", "b", ("p", (("a", value),), (("b", 1),))), 2, 1, 0, 1)
            self.wrong(("a", "b", ("p", (("a", 1),), (("b", value),))), 2, 2, 0, 1)

    def test_goods_and_names_told_twice(self):
        self.wrong(("a", "a", None), 1)
        self.wrong((("a", "b", None), ("c", ("b", "d", None), None), None), 1, 1, 0)
        self.wrong(("a", "b", ("p", (("a", 1), ("a", 2)), (("b", 1),))), 2, 1, 1, 0)
        self.wrong(("a", "b", ("p", (("a", 1),), (("b", 1), ("b", 1)))), 2, 2, 1, 0)
        one = ("a", "b", ("p", (("a", 1),), (("b", 1),)))
        other = ("c", "d", ("p", (("c", 1),), (("d", 1),)))
        self.wrong((one, other, None), 1, 2, 0)
        self.wrong((one, "c", ("p", (("a", 1),), (("c", 1),))), 2, 0)
        # The fork of the left side is told ahead of that of the right one, and both ahead of the fork itself.
        self.wrong((one, other, ("q", (("a", 1),), (("c", 1),))), 1, 2, 0)

    def test_goods_of_the_other_side_and_of_neither(self):
        self.wrong(("a", "b", ("p", (("b", 1),), (("a", 1),))), 2, 1, 0, 0)
        self.wrong(("a", "b", ("p", (("a", 1),), (("a", 1),))), 2, 2, 0, 0)
        self.wrong((("a", "b", ("p", (("a", 1),), (("c", 1),))), "c", None), 0, 2, 2, 0, 0)
        self.wrong(("c", ("a", "b", ("p", (("c", 1),), (("b", 1),))), None), 1, 2, 1, 0, 0)

    def test_lists_and_other_lengths(self):
        self.wrong([])
        self.wrong(["a", "b", None])
        self.wrong((["a", "b", None], "c", None), 0)
        self.wrong(("a", "b"))
        self.wrong(("a", "b", None, None))
        self.wrong(((), "a", None), 0)
        self.wrong(("a", (), None), 1)
        self.wrong(("a", "b", ["p", (("a", 1),), (("b", 1),)]), 2)
        self.wrong(("a", "b", ("p", [("a", 1)], (("b", 1),))), 2, 1)
        self.wrong(("a", "b", ("p", (["a", 1],), (("b", 1),))), 2, 1, 0)
        self.wrong(("a", "b", ("p", (("a", 1),))), 2)

    def test_the_first_of_several_wrong_parts(self):
        fork = ("p", (("a", 0),), (("b", 0),))
        self.wrong((("A", "B", 5), "C", 5), 0, 0)
        self.wrong((("a", "B", 5), "C", 5), 0, 1)
        self.wrong((("a", "b", 5), "C", 5), 0, 2)
        self.wrong((("a", "b", fork), "C", 5), 0, 2, 1, 0, 1)
        self.wrong((("a", "b", None), "C", 5), 1)
        self.wrong(("a", "b", ("P", 5, 5)), 2, 0)
        self.wrong(("a", "b", ("p", 5, 5)), 2, 1)
        self.wrong(("a", "b", ("p", (("a", 1), ("b", 0)), 5)), 2, 1, 1, 0)
        self.wrong(("a", "b", ("p", (("a", 0), 5), 5)), 2, 1, 0, 1)
        self.wrong(("a", "b", ("p", (5, ("a", 0)), 5)), 2, 1, 0)
        self.wrong(("a", "b", ("p", (("a", 1),), 5)), 2, 2)

    def test_values_that_are_nested_deep(self):
        value, path = "a", ()
        for k in range(39):
            value, path = ((value, f"g{k}", None), (0,) + path) if k % 2 else ((f"g{k}", value, None), (1,) + path)
        self.assertEqual(len(book_of_tree(value).goods()), 40)
        self.wrong((value, "a", None), 1)
        shared = "a"
        for _ in range(40):
            shared = (shared, shared, None)
        in_time(raised, book_of_tree, shared)
        self.wrong(shared, *(0,) * 39, 1)
        self.wrong(nested(40))


class NumberedForms(unittest.TestCase):
    def check(self, book):
        """A numbered form, held against the book of what it tells."""
        value = numbered_form(book)
        made = book_of_tree(value)
        self.assertEqual(sorted(made.goods()), sorted(book.goods()))
        self.assertEqual(sorted(made.names()), sorted(book.names()))
        for name, row in book.barters():
            self.assertEqual(as_numbers(made.row(name), made.goods()), as_numbers(row, book.goods()))
        self.assertTrue(plain_is_tree(book, plain_tree(value)))
        return value

    def test_examples(self):
        for book in (three(), letters(), money(), Book([], []), Book(["a"], []), Book(["a", "b"], [])):
            self.check(book)
        self.assertEqual(numbered_form(Book([], [])), ())
        self.assertEqual(numbered_form(Book(["a"], [])), "a")
        self.assertEqual(self.check(Book(["a", "b"], [("p", (-2, 3))])), ("a", "b", ("p", (("a", 2),), (("b", 3),))))
        self.assertEqual(self.check(Book(["a", "b"], [("p", (2, -3))])), ("b", "a", ("p", (("b", 3),), (("a", 2),))))

    def test_drawn_books(self):
        rng = random.Random(304)
        for goods in list(range(2, 11)) * 6:
            self.check(drawn_good_book(rng, goods, rng.choice([0.4, 0.8, 1.0]), 99)[0])

    def test_bad_books(self):
        for book in [there_and_back(), ring(3)] + [one for one in drawn_books(305, 60) if not plain_is_good(one)]:
            kind, square = raised(numbered_form, book)
            self.assertIs(kind, NotGood)
            self.assertTrue(plain_is_square(book, square))

    def test_books_at_the_limits(self):
        rng = random.Random(306)
        for _ in range(10):
            book, _ = drawn_good_book(rng, 10, 1.0, 99)
            in_time(book_of_tree, in_time(numbered_form, book))


def other_three():
    """A good book that can be joined with three()."""
    return Book(["d", "e"], [("r", (-2, 3))])


BRIDGE = ("s", (("a", 2), ("c", 1)), (("e", 5),))


class Bridges(unittest.TestCase):
    def test_the_row_of_a_bridge(self):
        book = bridged_books(three(), other_three(), BRIDGE)
        self.assertEqual(book.goods(), ["a", "b", "c", "d", "e"])
        self.assertEqual(
            book.barters(),
            [("p", (-2, 1, 0, 0, 0)), ("q", (0, -3, 1, 0, 0)), ("r", (0, 0, 0, -2, 3)), ("s", (-2, 0, -1, 0, 5))],
        )
        self.assertTrue(plain_is_good(book))
        # The pairs of a bridge may come in any sequence.
        self.assertEqual(bridged_books(three(), other_three(), ("s", BRIDGE[1][::-1], BRIDGE[2])), book)

    def test_good_exactly_if_both_are(self):
        rng = random.Random(307)
        seen = {}
        for one, other in itertools.product(drawn_books(308, 25, 4, 3), repeat=2):
            goods = [f"h{j}" for j in range(len(other.goods()))]
            other = Book(goods, [(f"m{k}", row) for k, (_, row) in enumerate(other.barters())])
            if not one.goods() or not goods:
                continue
            taken, given = [
                tuple((good, rng.randint(1, 9)) for good in rng.sample(side, rng.randint(1, len(side))))
                for side in (one.goods(), goods)
            ]
            book = bridged_books(one, other, ("bridge", taken, given))
            both = plain_is_good(one), plain_is_good(other)
            self.assertIs(is_good_book(book), all(both))
            self.assertEqual(is_good_book(book), plain_is_good(book))
            seen[both] = seen.get(both, 0) + 1
            if all(both):
                self.assertTrue(plain_is_tree(book, (tree_of(one), tree_of(other), "bridge")))
            else:
                self.assertIs(judge_breaking(book, breaking(book)), True)
        self.assertGreater(min(seen.values()), 30)
        self.assertEqual(len(seen), 4)

    def wrong(self, bridge, *path):
        one = three(), other_three()
        self.assertEqual(raised(bridged_books, *one, bridge), (BadMade, path), bridge)

    def test_each_path_of_the_bridge(self):
        for value in anything():
            if not isinstance(value, tuple) or len(value) != 3:
                self.wrong(value)
            if value != "unknown":
                self.wrong((value,) + BRIDGE[1:], 0)
            self.wrong(("s", ((value, 1),), BRIDGE[2]), 1, 0, 0)
            self.wrong(("s", BRIDGE[1], (("e", 1), (value, 1))), 2, 1, 0)
        for name in ("p", "q", "r"):
            self.wrong((name,) + BRIDGE[1:], 0)
        for value in not_tuples():
            self.wrong(("s", value, BRIDGE[2]), 1)
            self.wrong(("s", BRIDGE[1], value), 2)
        for value in not_pairs():
            self.wrong(("s", (value,), BRIDGE[2]), 1, 0)
            self.wrong(("s", BRIDGE[1], (("e", 1), value)), 2, 1)
        for value in not_counts():
            self.wrong(("s", (("a", 1), ("b", value)), BRIDGE[2]), 1, 1, 1)
            self.wrong(("s", BRIDGE[1], (("e", value),)), 2, 0, 1)
        for good in ("d", "e", "p", "s"):
            self.wrong(("s", (("a", 1), (good, 1)), BRIDGE[2]), 1, 1, 0)
        for good in ("a", "b", "c"):
            self.wrong(("s", BRIDGE[1], ((good, 1),)), 2, 0, 0)
        self.wrong(("s", (("a", 1), ("b", 1), ("a", 1)), BRIDGE[2]), 1, 2, 0)
        self.wrong(("s", BRIDGE[1], (("e", 1), ("e", 1))), 2, 1, 0)
        self.wrong(list(BRIDGE))
        self.wrong(("s", list(BRIDGE[1]), BRIDGE[2]), 1)
        self.wrong(("s", BRIDGE[1], (list(BRIDGE[2][0]),)), 2, 0)

    def test_the_first_of_several_wrong_parts(self):
        self.wrong(("S", 5, 5), 0)
        self.wrong(("s", 5, 5), 1)
        self.wrong(("s", (("e", 0), 5), 5), 1, 0, 0)
        self.wrong(("s", (("a", 0), 5), 5), 1, 0, 1)
        self.wrong(("s", (5, ("a", 0)), 5), 1, 0)
        self.wrong(("s", BRIDGE[1], 5), 2)
        self.wrong(("s", BRIDGE[1], (("e", 1), ("e", 0))), 2, 1, 0)

    def test_books_that_cannot_be_joined_come_first(self):
        others = [
            three(), Book(["d", "b"], []), Book(["d", "e"], [("q", (-1, 1))]), Book(["d", "a"], [("p", (-1, 1))]),
            there_and_back(), Book(["x", "c"], [("y", (1, -1))]),
        ]
        for other in others:
            expected = raised(joined_books, three(), other)
            self.assertIs(expected[0], BadBook)
            for bridge in [*anything(), BRIDGE, ("s", (("a", 1),), ((other.goods()[0], 1),))]:
                self.assertEqual(raised(bridged_books, three(), other, bridge), expected)

    def test_books_without_goods(self):
        for one, other, path in ((Book([], []), three(), (1, 0, 0)), (three(), Book([], []), (2, 0, 0))):
            for good in ("a", "b", "c", "d"):
                bridge = ("s", (("a", 1),), ((good, 1),))
                self.assertEqual(raised(bridged_books, one, other, bridge), (BadMade, path))


if __name__ == "__main__":
    unittest.main()
