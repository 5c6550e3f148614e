"""squares.py: [S2.4], and goodness as [S2.6] and [S2.7] tell it."""

import itertools
import random
import unittest

from eitherbarter.books import Book, book_pieces, joined_books, part_book, turned_book, with_barter, without_barter
from eitherbarter.chains import round_of
from eitherbarter.squares import all_squares, is_good_book, judge_square, square_of
from tests.helpers import (
    anything, coins, drawn_book, drawn_books, drawn_good_book, letters, plain_is_good, plain_is_square,
    plain_squares, ring,
)


def mixed():
    """A book with several squares."""
    return Book(
        ["a", "b", "c", "z"],
        [("p", (-2, 1, 0, 0)), ("q", (1, -1, 0, 0)), ("r", (3, -1, 1, 0)), ("s", (0, 1, -1, 0))],
    )


class Judged(unittest.TestCase):
    def test_names_and_goods_in_any_order(self):
        book = ring(3)
        for names in itertools.permutations(["n0", "n1", "n2"]):
            for goods in itertools.permutations(["g0", "g1", "g2"]):
                self.assertIs(judge_square(book, (names, goods)), True)

    def test_a_good_that_none_of_the_barters_has(self):
        self.assertIs(judge_square(mixed(), (("p", "q", "r"), ("a", "z", "b"))), True)
        self.assertIs(judge_square(mixed(), (("p", "q"), ("a", "z"))), False)

    def test_none(self):
        book = mixed()
        self.assertIs(judge_square(book, (("p", "q"), ("a", "b"))), True)
        for value in (
            [("p", "q"), ("a", "b")], (["p", "q"], ("a", "b")), (("p", "q"), ["a", "b"]), (("p", "q"), ("a", "b"), ()),
            (("p", "q"),), (("p", "q"), ("a", "b", "c")), (("p", "q", "r"), ("a", "b")), (("p",), ("a",)), ((), ()),
            (("p", "p"), ("a", "b")), (("p", "q"), ("a", "a")), (("p", "q"), ("a", "c")), (("p", "s"), ("a", "b")),
            (("p", "a"), ("a", "b")), (("p", "q"), ("a", "p")), (("a", "b"), ("p", "q")), (("p", None), ("a", "b")),
            (("p", "q"), ("a", ["b"])), (("p", ("q",)), ("a", "b")), ("pq", "ab"), None, (("p", "q"), ("a", True)),
        ):
            self.assertIs(judge_square(book, value), False, value)

    def test_values_of_all_kinds(self):
        for value in anything():
            for book in (mixed(), Book([], [])):
                self.assertIs(judge_square(book, value), False)
                self.assertIs(judge_square(book, (value, value)), False)
                right = book.goods() != [] and type(value) is tuple and value == ("a", "b")
                self.assertIs(judge_square(book, (("p", "q"), value)), right)
                self.assertIs(judge_square(book, (value, ("a", "b"))), False)
                self.assertIs(judge_square(book, (("p", value), ("a", "b"))), False)
                self.assertIs(judge_square(book, (("p", "q"), ("a", value))), False)

    def test_drawn_values(self):
        rng = random.Random(62)
        for book in drawn_books(63, 60, 5, 5):
            for _ in range(30):
                names = tuple(rng.choices([*book.names(), "nothing"], k=rng.randint(1, 4)))
                goods = tuple(rng.choices([*book.goods(), "nothing"], k=rng.choice([len(names), 2, 3])))
                expected = plain_is_square(book, (names, goods))
                self.assertIs(judge_square(book, (names, goods)), expected, (names, goods))
            for names, goods in plain_squares(book)[:20]:
                self.assertIs(judge_square(book, (names[::-1], goods)), True)


class Told(unittest.TestCase):
    def test_examples(self):
        self.assertIsNone(square_of(letters()))
        self.assertIsNone(square_of(Book([], [])))
        self.assertIsNone(square_of(Book(["a", "b"], [])))
        self.assertIsNone(square_of(Book(["a", "b"], [("p", (-1, 1))])))
        self.assertIs(is_good_book(Book([], [])), True)
        self.assertIs(is_good_book(letters()), True)
        self.assertIs(is_good_book(mixed()), False)
        book = Book(["a", "b"], [("p", (-2, 1)), ("q", (-1, 1))])
        names, goods = square_of(book)
        self.assertEqual((sorted(names), sorted(goods)), (["p", "q"], ["a", "b"]))

    def test_the_book_of_part_one_with_another_barter(self):
        self.assertIs(is_good_book(coins()), True)
        book = with_barter(coins(), "unpack", (0, 2, -1))
        self.assertIs(is_good_book(book), False)
        self.assertEqual([sorted(part) for part in square_of(book)], [["pack", "unpack"], ["bag", "note"]])

    def test_rings(self):
        for many in range(2, 11):
            names, goods = square_of(ring(many))
            self.assertEqual(sorted(names), sorted(ring(many).names()))
            self.assertEqual(sorted(goods), sorted(ring(many).goods()))
            self.assertIs(is_good_book(without_barter(ring(many), "n1")), True)

    def check(self, book):
        square = square_of(book)
        self.assertIs(is_good_book(book), plain_is_good(book))
        self.assertIs(square is None, plain_is_good(book))
        self.assertIs(round_of(book) is None, square is None)
        if square is not None:
            self.assertTrue(plain_is_square(book, square))
            self.assertIs(judge_square(book, square), True)
            self.assertIs(type(square), tuple)
            self.assertEqual([type(part) for part in square], [tuple, tuple])

    def test_drawn_books(self):
        for book in drawn_books(64, 300, 7, 7):
            self.check(book)

    def test_books_at_the_limits(self):
        rng = random.Random(65)
        for share in (0.2, 0.25, 0.3, 0.4, 0.6, 1.0):
            self.check(drawn_book(rng, 10, 12, share))
            for _ in range(10):
                self.check(drawn_book(rng, 10, 4, share))
        for _ in range(15):
            book, _ = drawn_good_book(rng, 10, 1.0)
            self.assertEqual(len(book.names()), 9)
            self.check(book)
        for _ in range(15):
            book, _ = drawn_good_book(rng, 10, 0.7)
            row = [0] * 10
            row[rng.randrange(5)], row[rng.randrange(5, 10)] = -1, 1
            self.check(with_barter(book, "more", tuple(row)))

    def test_equal_squares_for_equal_books(self):
        for book in drawn_books(66, 60):
            again = Book(tuple(book.goods()), tuple(book.barters()))
            self.assertEqual(square_of(again), square_of(book))
            self.assertEqual(square_of(book), square_of(book))

    def test_good_books_made_from_trees(self):
        rng = random.Random(67)
        for _ in range(100):
            book, _ = drawn_good_book(rng, rng.randint(1, 10), rng.choice([0.5, 1.0]))
            self.assertIs(is_good_book(book), True)
            self.assertIsNone(square_of(book))
            self.assertIsNone(round_of(book))
            self.assertLess(len(book.names()), len(book.goods()))

    def test_parts_turned_about_joined(self):
        rng = random.Random(68)
        for book in drawn_books(69, 60):
            good = is_good_book(book)
            turned = turned_book(book, rng.sample(book.names(), rng.randint(0, len(book.names()))))
            self.assertIs(is_good_book(turned), good)
            if not good:
                names, goods = square_of(book)
                self.assertIs(judge_square(turned, (names, goods)), True)
                part = part_book(book, list(goods))
                self.assertIs(is_good_book(part), False)
                self.assertIs(judge_square(part, (names, goods)), True)
            else:
                for name in book.names():
                    self.assertIs(is_good_book(without_barter(book, name)), True)
                part = part_book(book, rng.sample(book.goods(), rng.randint(0, len(book.goods()))))
                self.assertIs(is_good_book(part), True)
            pieces = [part_book(book, list(goods)) for goods, _ in book_pieces(book)]
            self.assertIs(all(is_good_book(piece) for piece in pieces), good)
            self.assertIs(is_good_book(joined_books(book, letters())), good)
            self.assertIs(is_good_book(joined_books(Book(["x", "y"], [("u", (-1, 1)), ("v", (1, -1))]), book)), False)

    def test_too_many_barters(self):
        rng = random.Random(70)
        for many in range(2, 7):
            self.assertIs(is_good_book(drawn_book(rng, many, many)), False)


class AllSquares(unittest.TestCase):
    def test_an_example(self):
        self.assertEqual(all_squares(mixed()), [
            (("p", "q"), ("a", "b")), (("p", "r"), ("a", "b")), (("q", "r"), ("a", "b")), (("r", "s"), ("b", "c")),
            (("p", "q", "r"), ("a", "b", "c")), (("p", "q", "r"), ("a", "b", "z")), (("p", "q", "s"), ("a", "b", "c")),
            (("p", "r", "s"), ("a", "b", "c")), (("q", "r", "s"), ("a", "b", "c")),
            (("p", "q", "r", "s"), ("a", "b", "c", "z")),
        ])

    def test_none(self):
        for book in (letters(), Book([], []), Book(["a"], []), Book(["a", "b"], [("p", (-1, 1))])):
            self.assertEqual(all_squares(book), [])

    def test_held_against_a_plain_listing(self):
        for book in drawn_books(71, 120, 5, 5):
            squares = all_squares(book)
            self.assertEqual(squares, plain_squares(book))
            self.assertEqual(len(set(squares)), len(squares))
            self.assertIs(bool(squares), not is_good_book(book))
            for square in squares:
                self.assertIs(judge_square(book, square), True)

    def test_at_the_limits(self):
        rng = random.Random(72)
        for share in (0.3, 0.5, 1.0):
            book = drawn_book(rng, 5, 5, share)
            self.assertEqual(all_squares(book), plain_squares(book))


if __name__ == "__main__":
    unittest.main()
