"""books.py: [S1.1] to [S1.5] and [S1.9]."""

import copy
import random
import unittest

from eitherbarter.books import (
    Book, book_pieces, joined_books, part_book, turned_book, with_barter, without_barter,
)
from eitherbarter.errors import BadBook, UnknownName
from tests.helpers import anything, coins, drawn_book, drawn_books


def told(book):
    """All that a book tells, plainly."""
    return (book.goods(), book.barters())


def wrong_path(goods, barters):
    """The path of S1.9, or None if this is a book."""
    try:
        Book(goods, barters)
    except BadBook as error:
        return error.path
    return None


class Reading(unittest.TestCase):
    def test_the_book_of_the_document(self):
        book = coins()
        self.assertEqual(book.goods(), ["coin", "note", "bag"])
        self.assertEqual(book.barters(), [("change", (-5, 1, 0)), ("pack", (-1, -2, 1))])
        self.assertEqual(book.names(), ["change", "pack"])
        self.assertEqual(book.row("change"), (-5, 1, 0))
        self.assertEqual(book.row("pack"), (-1, -2, 1))
        self.assertEqual((book.takes("change"), book.gives("change")), (["coin"], ["note"]))
        self.assertEqual((book.takes("pack"), book.gives("pack")), (["coin", "note"], ["bag"]))
        self.assertEqual([book.good_number(good) for good in ("coin", "note", "bag")], [0, 1, 2])
        self.assertEqual([book.barter_number(name) for name in ("change", "pack")], [0, 1])

    def test_the_book_without_goods(self):
        self.assertEqual(told(Book([], [])), ([], []))
        self.assertEqual(Book([], []).names(), [])
        self.assertEqual(told(Book((), ())), ([], []))

    def test_a_book_without_barters(self):
        book = Book(["a", "b"], [])
        self.assertEqual(told(book), (["a", "b"], []))
        self.assertEqual(book.names(), [])
        self.assertEqual(book.good_number("b"), 1)
        with self.assertRaises(UnknownName):
            book.row("a")

    def test_a_word_may_be_a_good_and_a_name(self):
        book = Book(["x", "y"], [("p", (1, -1)), ("y", (-3, 2))])
        self.assertEqual((book.good_number("y"), book.barter_number("y")), (1, 1))
        self.assertEqual((book.row("y"), book.takes("y"), book.gives("y")), ((-3, 2), ["x"], ["y"]))
        with self.assertRaises(UnknownName):
            book.barter_number("x")
        with self.assertRaises(UnknownName):
            book.good_number("p")

    def test_takes_and_gives_are_in_the_order_of_the_goods(self):
        book = Book(["d", "c", "b", "a", "e"], [("m", (-1, 3, 0, -2, 4))])
        self.assertEqual(book.takes("m"), ["d", "a"])
        self.assertEqual(book.gives("m"), ["c", "e"])

    def test_unknown_names(self):
        book = coins()
        for value in [*anything(), "nothing"]:
            for method in (book.row, book.takes, book.gives, book.barter_number, book.good_number):
                with self.assertRaises(UnknownName) as caught:
                    method(value)
                self.assertIs(caught.exception.name, value)
        for method in (book.row, book.takes, book.gives, book.barter_number):
            with self.assertRaises(UnknownName) as caught:
                method("coin")
            self.assertEqual(caught.exception.name, "coin")
        with self.assertRaises(UnknownName) as caught:
            book.good_number("change")
        self.assertEqual(caught.exception.name, "change")

    def test_at_the_limits(self):
        rng = random.Random(5)
        book = drawn_book(rng, 10, 12, 1.0, 10 ** 40 - 1)
        for k, (name, row) in enumerate(book.barters()):
            self.assertEqual(book.row(name), row)
            self.assertEqual(book.barter_number(name), k)
            self.assertEqual(book.takes(name), [g for g, n in zip(book.goods(), row) if n < 0])
            self.assertEqual(book.gives(name), [g for g, n in zip(book.goods(), row) if n > 0])
        self.assertEqual(Book(book.goods(), book.barters()), book)

    def test_a_book_keeps_nothing_that_was_passed(self):
        goods, barters = ["a", "b"], [("p", (-1, 1))]
        book = Book(goods, barters)
        goods.append("c")
        barters.clear()
        self.assertEqual(told(book), (["a", "b"], [("p", (-1, 1))]))

    def test_returned_lists_are_new(self):
        book = coins()
        for method in (book.goods, book.barters, book.names):
            self.assertIsNot(method(), method())
            before = method()
            method().clear()
            self.assertEqual(method(), before)
        for method in (book.takes, book.gives):
            before = method("pack")
            method("pack").clear()
            self.assertEqual(method("pack"), before)


class Equality(unittest.TestCase):
    def test_equal_books(self):
        self.assertIs(coins() == coins(), True)
        self.assertIs(Book([], []) == Book((), ()), True)
        self.assertIs(Book(("coin", "note", "bag"), tuple(coins().barters())) == coins(), True)
        self.assertIs(coins() != coins(), False)

    def test_books_that_differ_in_one_thing(self):
        goods, (change, pack) = coins().goods(), coins().barters()
        for other in (
            Book(["coin", "note", "sack"], [change, pack]),
            Book(["note", "coin", "bag"], [change, pack]),
            Book(goods, [pack, change]),
            Book(goods, [change]),
            Book(goods, []),
            Book(goods, [change, ("pick", pack[1])]),
            Book(goods, [change, ("pack", (-1, -2, 2))]),
            Book(goods, [change, ("pack", (1, 2, -1))]),
            Book(goods, [change, pack, ("more", pack[1])]),
            Book([], []),
        ):
            self.assertIs(coins() == other, False)
            self.assertIs(other == coins(), False)
            self.assertIs(coins() != other, True)
        self.assertIs(Book(["a", "b"], []) == Book(["a"], []), False)

    def test_other_values_are_no_equal_books(self):
        for value in anything():
            if not isinstance(value, Book):
                self.assertIs(coins() == value, False)
        self.assertIs(coins() == (coins().goods(), coins().barters()), False)


class Turned(unittest.TestCase):
    def test_the_example(self):
        turned = turned_book(coins(), ["change"])
        self.assertEqual(turned, Book(coins().goods(), [("change", (5, -1, 0)), ("pack", (-1, -2, 1))]))
        self.assertEqual((turned.takes("change"), turned.gives("change")), (["note"], ["coin"]))

    def test_some_none_and_all(self):
        barters = coins().barters()
        both = [(name, tuple(-n for n in row)) for name, row in barters]
        self.assertEqual(turned_book(coins(), []), coins())
        self.assertEqual(turned_book(coins(), ["pack"]).barters(), [barters[0], both[1]])
        for names in (["change", "pack"], ["pack", "change"], ("pack", "change")):
            self.assertEqual(told(turned_book(coins(), names)), (coins().goods(), both))
        self.assertEqual(turned_book(Book([], []), []), Book([], []))

    def test_turned_twice(self):
        rng = random.Random(11)
        for book in drawn_books(12, 40):
            names = rng.sample(book.names(), rng.randint(0, len(book.names())))
            turned = turned_book(book, names)
            for name, row in book.barters():
                self.assertEqual(turned.row(name), tuple(-n for n in row) if name in names else row)
            self.assertEqual(turned.names(), book.names())
            rng.shuffle(names)
            self.assertEqual(turned_book(turned, names), book)

    def test_the_first_that_is_no_name(self):
        for value in [*anything(), "coin"]:
            for names in ([value], ["pack", value], ["pack", value, "other", "change"], (value, "change")):
                with self.assertRaises(UnknownName) as caught:
                    turned_book(coins(), names)
                self.assertIs(caught.exception.name, value)


class Parts(unittest.TestCase):
    def test_the_examples(self):
        self.assertEqual(part_book(coins(), ["coin", "bag"]), Book(["coin", "bag"], [("pack", (-1, 1))]))
        self.assertEqual(part_book(coins(), ["note", "bag"]), Book(["note", "bag"], [("pack", (-2, 1))]))

    def test_the_order_of_the_goods_does_not_matter(self):
        self.assertEqual(part_book(coins(), ["bag", "coin"]), Book(["coin", "bag"], [("pack", (-1, 1))]))
        self.assertEqual(part_book(coins(), ("bag", "note", "coin")), coins())

    def test_no_goods_one_good_and_all(self):
        self.assertEqual(part_book(coins(), []), Book([], []))
        self.assertEqual(part_book(coins(), ["coin"]), Book(["coin"], []))
        self.assertEqual(part_book(coins(), ["coin", "note", "bag"]), coins())
        self.assertEqual(part_book(Book([], []), []), Book([], []))

    def test_drawn_parts(self):
        rng = random.Random(21)
        for book in drawn_books(22, 60):
            wanted = rng.sample(book.goods(), rng.randint(0, len(book.goods())))
            part = part_book(book, wanted)
            goods = [good for good in book.goods() if good in wanted]
            names = [
                name for name in book.names()
                if set(book.takes(name)) & set(wanted) and set(book.gives(name)) & set(wanted)
            ]
            self.assertEqual(part.goods(), goods)
            self.assertEqual(part.names(), names)
            for name in names:
                self.assertEqual(part.row(name), tuple(book.row(name)[book.good_number(g)] for g in goods))

    def test_the_first_that_is_no_good(self):
        for value in [*anything(), "pack"]:
            for goods in ([value], ["bag", value], ["bag", value, "other", "coin"]):
                with self.assertRaises(UnknownName) as caught:
                    part_book(coins(), goods)
                self.assertIs(caught.exception.name, value)


class Pieces(unittest.TestCase):
    def test_examples(self):
        self.assertEqual(book_pieces(coins()), [(("coin", "note", "bag"), ("change", "pack"))])
        self.assertEqual(book_pieces(Book([], [])), [])
        self.assertEqual(book_pieces(Book(["a", "b"], [])), [(("a",), ()), (("b",), ())])
        book = Book(
            ["a", "b", "c", "d", "e", "f"],
            [("p", (0, 0, -1, 0, 0, 1)), ("q", (-1, 0, 0, 1, 0, 0)), ("r", (0, 0, 1, 0, -1, 0))],
        )
        self.assertEqual(book_pieces(book), [(("a", "d"), ("q",)), (("b",), ()), (("c", "e", "f"), ("p", "r"))])

    def test_goods_on_one_side_of_a_barter_hang_together(self):
        book = Book(["a", "b", "c", "d"], [("p", (-1, -1, 1, 0)), ("q", (1, 0, -1, 0))])
        self.assertEqual(book_pieces(book), [(("a", "b", "c"), ("p", "q")), (("d",), ())])

    def test_a_good_and_a_name_that_are_the_same_word(self):
        book = Book(["a", "b", "c"], [("c", (-1, 1, 0))])
        self.assertEqual(book_pieces(book), [(("a", "b"), ("c",)), (("c",), ())])

    def test_drawn_books(self):
        for book in drawn_books(31, 80, 8, 4):
            near = {good: {good} for good in book.goods()}
            for _ in book.goods():
                for name in book.names():
                    has = book.takes(name) + book.gives(name)
                    for good, found in near.items():
                        if found & set(has):
                            found.update(has)
            expected, seen = [], set()
            for good in book.goods():
                if good not in seen:
                    seen |= near[good]
                    goods = tuple(g for g in book.goods() if g in near[good])
                    names = tuple(n for n in book.names() if book.takes(n)[0] in near[good])
                    expected.append((goods, names))
            self.assertEqual(book_pieces(book), expected)


class Joined(unittest.TestCase):
    def test_an_example(self):
        other = Book(["coffee", "tea"], [("brew", (-2, 1)), ("swap", (3, -4))])
        self.assertEqual(joined_books(coins(), other), Book(
            ["coin", "note", "bag", "coffee", "tea"],
            [("change", (-5, 1, 0, 0, 0)), ("pack", (-1, -2, 1, 0, 0)),
             ("brew", (0, 0, 0, -2, 1)), ("swap", (0, 0, 0, 3, -4))],
        ))

    def test_with_the_book_without_goods(self):
        self.assertEqual(joined_books(coins(), Book([], [])), coins())
        self.assertEqual(joined_books(Book([], []), coins()), coins())
        self.assertEqual(joined_books(Book([], []), Book([], [])), Book([], []))

    def test_a_good_of_the_one_may_be_a_name_of_the_other(self):
        joined = joined_books(Book(["a", "b"], [("p", (-1, 1))]), Book(["p", "q"], [("a", (-1, 1))]))
        self.assertEqual(joined.barters(), [("p", (-1, 1, 0, 0)), ("a", (0, 0, -1, 1))])

    def test_a_common_good_or_name(self):
        one = Book(["a", "b"], [("p", (-1, 1)), ("q", (1, -1))])
        for other, path in (
            (Book(["c", "a"], []), (0, 3)),
            (Book(["b"], []), (0, 2)),
            (Book(["c", "d"], [("r", (-1, 1)), ("q", (-1, 1))]), (1, 3, 0)),
            (Book(["c", "d"], [("p", (-1, 1))]), (1, 2, 0)),
            (Book(["c", "b"], [("p", (-1, 1))]), (0, 3)),
        ):
            with self.assertRaises(BadBook) as caught:
                joined_books(one, other)
            self.assertEqual(caught.exception.path, path)


class OneBarter(unittest.TestCase):
    def test_with_barter(self):
        self.assertEqual(with_barter(coins(), "coin", (0, 1, -1)), Book(
            coins().goods(), [*coins().barters(), ("coin", (0, 1, -1))],
        ))
        self.assertEqual(with_barter(Book(["a", "b"], []), "p", (2, -3)), Book(["a", "b"], [("p", (2, -3))]))

    def test_refused_barters(self):
        for name, row, path in (
            ("change", (0, 1, -1), (1, 2, 0)),
            ("Pick", (0, 1, -1), (1, 2, 0)),
            ("pack", None, (1, 2, 0)),
            ("pick", [0, 1, -1], (1, 2, 1)),
            ("pick", (1, -1), (1, 2, 1)),
            ("pick", (0, 1, 1), (1, 2, 1)),
            ("pick", (0, -1, -1), (1, 2, 1)),
            ("pick", (0, 0, 0), (1, 2, 1)),
            ("pick", (0, 1, "a"), (1, 2, 1, 2)),
            ("pick", (True, 1, -1), (1, 2, 1, 0)),
        ):
            with self.assertRaises(BadBook) as caught:
                with_barter(coins(), name, row)
            self.assertEqual(caught.exception.path, path, (name, row))
        with self.assertRaises(BadBook) as caught:
            with_barter(Book([], []), "p", ())
        self.assertEqual(caught.exception.path, (1, 0, 1))

    def test_values_of_all_kinds(self):
        for value in anything():
            if value != "unknown":
                with self.assertRaises(BadBook) as caught:
                    with_barter(coins(), value, (-1, 1, 0))
                self.assertEqual(caught.exception.path, (1, 2, 0))
            with self.assertRaises(BadBook) as caught:
                with_barter(coins(), "more", value)
            self.assertEqual(caught.exception.path[:3], (1, 2, 1))

    def test_without_barter(self):
        self.assertEqual(without_barter(coins(), "change"), Book(coins().goods(), [("pack", (-1, -2, 1))]))
        self.assertEqual(without_barter(coins(), "pack"), Book(coins().goods(), [("change", (-5, 1, 0))]))
        for value in [*anything(), "coin"]:
            with self.assertRaises(UnknownName) as caught:
                without_barter(coins(), value)
            self.assertIs(caught.exception.name, value)

    def test_there_and_back(self):
        for book in drawn_books(41, 40):
            for name, row in book.barters()[-1:]:
                self.assertEqual(with_barter(without_barter(book, name), name, row), book)


GOODS = ["a", "b", "c"]
BARTERS = [["p", [-1, 1, 0]], ["q", [0, -2, 3]], ["r", [1, 0, -1]]]


def frozen(barters):
    """Barters whose pairs and rows are lists, as they should be; all else stays."""
    out = []
    for barter in barters:
        if type(barter) is list:
            barter = tuple(tuple(part) if type(part) is list else part for part in barter)
        out.append(barter)
    return out


def fault(place, value):
    """A function that puts a value at a place of a pair [goods, barters], and the path that is told then."""
    def spoil(both):
        at = both
        for k in place[:-1]:
            at = at[k]
        at[place[-1]] = value
    return spoil


# In the order of S1.9: a place, a value that is wrong there, and the path.
FAULTS = [
    ((0,), None, (0,)), ((0,), "abc", (0,)), ((0,), {"a": 1}, (0,)),
    ((0, 0), "A", (0, 0)), ((0, 0), 1, (0, 0)), ((0, 1), "a", (0, 1)), ((0, 2), ["c"], (0, 2)),
    ((0, 2), "b", (0, 2)),
    ((1,), None, (1,)), ((1,), "pqr", (1,)), ((1,), {}, (1,)),
    ((1, 0), None, (1, 0)), ((1, 0), "p", (1, 0)), ((1, 0), ("p",), (1, 0)),
    ((1, 0), ("p", (-1, 1, 0), 0), (1, 0)),
    ((1, 0, 0), "1p", (1, 0, 0)), ((1, 0, 0), None, (1, 0, 0)), ((1, 0, 0), ("p",), (1, 0, 0)),
    ((1, 0, 1), None, (1, 0, 1)), ((1, 0, 1), (-1, 1), (1, 0, 1)), ((1, 0, 1), (-1, 1, 0, 0), (1, 0, 1)),
    ((1, 0, 1, 0), True, (1, 0, 1, 0)), ((1, 0, 1, 0), "1", (1, 0, 1, 0)), ((1, 0, 1, 1), None, (1, 0, 1, 1)),
    ((1, 0, 1, 2), False, (1, 0, 1, 2)), ((1, 0, 1, 2), (0,), (1, 0, 1, 2)),
    ((1, 0, 1, 0), 1, (1, 0, 1)), ((1, 0, 1, 1), 0, (1, 0, 1)), ((1, 0, 1, 1), -3, (1, 0, 1)),
    ((1, 1), (), (1, 1)), ((1, 1, 0), "p", (1, 1, 0)), ((1, 1, 1), 7, (1, 1, 1)),
    ((1, 1, 1, 2), None, (1, 1, 1, 2)), ((1, 1, 1, 2), 0, (1, 1, 1)),
    ((1, 2), {}, (1, 2)), ((1, 2, 0), "q", (1, 2, 0)), ((1, 2, 0), "p", (1, 2, 0)),
    ((1, 2, 1), (), (1, 2, 1)), ((1, 2, 1, 1), True, (1, 2, 1, 1)), ((1, 2, 1, 2), 1, (1, 2, 1)),
]


class WrongBooks(unittest.TestCase):
    def test_each_path(self):
        self.assertIsNone(wrong_path(GOODS, frozen(BARTERS)))
        for place, value, path in FAULTS:
            both = copy.deepcopy([GOODS, BARTERS])
            fault(place, value)(both)
            goods, barters = both
            barters = frozen(barters) if type(barters) is list else barters
            self.assertEqual(wrong_path(goods, barters), path, (place, value))

    def test_the_one_that_comes_first_is_told(self):
        for k, (place, value, path) in enumerate(FAULTS):
            for later_place, later_value, later_path in FAULTS[k + 1:]:
                if later_path[:2] == path[:2] and path[0] == 1 or later_place[:len(place)] == place:
                    continue
                both = copy.deepcopy([GOODS, BARTERS])
                try:
                    fault(later_place, later_value)(both)
                    fault(place, value)(both)
                except (TypeError, IndexError):
                    continue
                goods, barters = both
                barters = frozen(barters) if type(barters) is list else barters
                self.assertEqual(wrong_path(goods, barters), path, (place, value, later_place, later_value))

    def test_two_wrong_parts_of_one_barter(self):
        for barter, path in (
            (("P", "x"), (1, 0, 0)),
            (("P", (1, None, 0)), (1, 0, 0)),
            (("p", ("x", None)), (1, 0, 1)),
            (("p", ("x", None, 0)), (1, 0, 1, 0)),
            (("p", (0, None, True)), (1, 0, 1, 1)),
            (("p", (1, 1, True)), (1, 0, 1, 2)),
            (("P", "x", "y"), (1, 0)),
            (["p", (-1, 1, 0)], (1, 0)),
            (("p", [-1, 1, 0]), (1, 0, 1)),
        ):
            self.assertEqual(wrong_path(GOODS, [barter, ("p", (1, 1, 1)), None]), path)

    def test_barters_without_goods(self):
        self.assertEqual(wrong_path([], [("p", ())]), (1, 0, 1))
        self.assertEqual(wrong_path([], [("p", (-1, 1))]), (1, 0, 1))
        self.assertEqual(wrong_path([], [()]), (1, 0))

    def test_values_of_all_kinds(self):
        for value in anything():
            if not isinstance(value, (list, tuple)):
                self.assertEqual(wrong_path(value, None), (0,))
                self.assertEqual(wrong_path([], value), (1,))
            if value != "unknown":
                self.assertEqual(wrong_path(["a", value, "a"], None), (0, 1))
                self.assertEqual(wrong_path(GOODS, [("p", (-1, 1, 0)), (value, value)]), (1, 1, 0))
            self.assertEqual(wrong_path(GOODS, [value])[:2], (1, 0))
            if type(value) is not int:
                self.assertEqual(wrong_path(GOODS, [("p", (-1, 1, value))]), (1, 0, 1, 2))

    def test_a_list_may_be_a_tuple(self):
        self.assertEqual(Book(tuple(GOODS), tuple(frozen(BARTERS))), Book(GOODS, frozen(BARTERS)))

    def test_words_of_twelve_characters(self):
        self.assertIsNone(wrong_path(["abcdefghijkl"], []))
        self.assertEqual(wrong_path(["abcdefghijklm"], []), (0, 0))


if __name__ == "__main__":
    unittest.main()
