"""booktexts.py: [S1.6], [S1.8] and [S1.10]."""

import random
import unittest

from eitherbarter.books import Book
from eitherbarter.booktexts import book_text, read_book
from eitherbarter.errors import BadBook, BadText
from tests.helpers import coins, drawn_book, drawn_books
from tests.test_lexemes import plain_wrong_place

TEXT = """book (coin, note, bag) {
change (5 coin) to (1 note);
pack (1 coin, 2 note) to (1 bag);
}
"""

# The form of a book as a table: what may come in a state, and the state behind it; 17 is the end.
STATES = {
    0: {"book": 1}, 1: {"(": 2}, 2: {")": 5, "WORD": 3}, 3: {",": 4, ")": 5}, 4: {"WORD": 3}, 5: {"{": 6},
    6: {"}": 17, "WORD": 7}, 7: {"(": 8}, 8: {"NUMBER": 9}, 9: {"WORD": 10}, 10: {",": 8, ")": 11},
    11: {"to": 12}, 12: {"(": 13}, 13: {"NUMBER": 14}, 14: {"WORD": 15}, 15: {",": 13, ")": 16}, 16: {";": 6},
    17: {},
}


class Texts(unittest.TestCase):
    def wrong_place(self, text):
        with self.assertRaises(BadText) as caught:
            read_book(text)
        return caught.exception.place

    def wrong_path(self, text):
        with self.assertRaises(BadBook) as caught:
            read_book(text)
        return caught.exception.path

    def test_written_texts(self):
        self.assertEqual(book_text(coins()), TEXT)
        self.assertEqual(book_text(Book([], [])), "book () {\n}\n")
        self.assertEqual(book_text(Book(["a"], [])), "book (a) {\n}\n")
        self.assertEqual(
            book_text(Book(["to", "book"], [("to", (12, -34))])),
            "book (to, book) {\nto (34 book) to (12 to);\n}\n",
        )

    def test_the_parts_are_written_in_the_order_of_the_goods(self):
        book = Book(["d", "b", "c", "a"], [("m", (-1, 2, -3, 4))])
        self.assertEqual(book_text(book), "book (d, b, c, a) {\nm (1 d, 3 c) to (2 b, 4 a);\n}\n")

    def test_read(self):
        self.assertEqual(read_book(TEXT), coins())
        self.assertEqual(read_book("book () {\n}\n"), Book([], []))
        self.assertEqual(read_book("book(){}"), Book([], []))
        self.assertEqual(read_book("book(a){}"), Book(["a"], []))

    def test_read_with_other_blanks_and_sequences(self):
        for text in (
            "book(coin,note,bag){change(5coin)to(1note);pack(1coin,2note)to(1bag);}",
            "book(coin,note,bag){change(5coin)to(1note);pack(2note,1coin)to(1bag);}",
            " \n book ( coin , note , bag ) { change ( 5 coin ) to ( 1 note ) ; pack ( 2 note , 1 coin ) to"
            " ( 1 bag ) ; } \n ",
            TEXT.replace(" ", "\n"),
            TEXT.replace("\n", " "),
            TEXT.rstrip(),
        ):
            self.assertEqual(read_book(text), coins(), text)

    def test_the_parts_of_a_side_in_another_sequence(self):
        book = read_book("book (a, b, c, d) { m (3 c, 1 a) to (4 d, 2 b); }")
        self.assertEqual(book, Book(["a", "b", "c", "d"], [("m", (-1, 2, -3, 4))]))
        self.assertEqual(book_text(book), "book (a, b, c, d) {\nm (1 a, 3 c) to (2 b, 4 d);\n}\n")

    def test_words_of_the_forms_are_names_too(self):
        text = "book (book, to) {\nto (1 to) to (2 book);\nbook (3 book) to (4 to);\n}\n"
        book = Book(["book", "to"], [("to", (2, -1)), ("book", (-3, 4))])
        self.assertEqual(read_book(text), book)
        self.assertEqual(book_text(book), text)

    def test_drawn_books_there_and_back(self):
        rng = random.Random(8)
        books = drawn_books(7, 60) + [drawn_book(rng, 10, 12, share, 10 ** 40 - 1) for share in (0.3, 0.6, 1.0)]
        for book in books:
            self.assertEqual(read_book(book_text(book)), book)
            squeezed = book_text(book).replace("\n", " ").replace("( ", "(")
            self.assertEqual(read_book(squeezed), book)

    def test_numbers_of_forty_digits(self):
        great = 10 ** 40 - 1
        book = Book(["a", "b"], [("p", (-great, 10 ** 39))])
        self.assertEqual(book_text(book), f"book (a, b) {{\np ({'9' * 40} a) to (1{'0' * 39} b);\n}}\n")
        self.assertEqual(read_book(book_text(book)), book)

    def test_the_wrong_places_of_the_document(self):
        self.assertEqual(self.wrong_place("book [ a"), 5)
        self.assertEqual(self.wrong_place("book (a."), 7)
        self.assertEqual(self.wrong_place("books ["), 0)

    def test_wrong_places(self):
        for text, place in (
            ("", 0), (" ", 1), (" \n\n", 3), ("book", 4), ("book ", 5), ("boo", 0), ("BOOK () {}", 0), ("7", 0),
            ("book a", 5), ("book {", 5), ("book (", 6), ("book (a", 7), ("book (a b", 8), ("book (a,)", 8),
            ("book (,", 6), ("book (7", 6), ("book (a;", 7), ("book ()", 7), ("book () ;", 8), ("book () (", 8),
            ("book () {", 9), ("book () {} ", None), ("book () {} }", 11), ("book () {};", 10), ("book () {} a", 11),
            ("book () {} [", 11), ("book () { a", 11), ("book () { 7", 10), ("book () { ;", 10),
            ("book () { to to", 13),
            ("book () { a (", 13), ("book () { a ()", 13), ("book () { a (b", 13), ("book () { a (1", 14),
            ("book () { a (1 1", 15), ("book () { a (01", 14), ("book () { a (1 b", 16), ("book () { a (1 b,)", 17),
            ("book () { a (1 b c", 17), ("book () { a (1 b,, ", 17), ("book () { a (1 b) {", 18),
            ("book () { a (1 b) too", 18), ("book () { a (1 b) to", 20), ("book () { a (1 b) to;", 20),
            ("book () { a (1 b) to ()", 22), ("book () { a (1 b) to (1 c)", 26), ("book () { a (1 b) to (1 c)}", 26),
            ("book () { a (1 b) to (1 c),", 26), ("book () { a (1 b) to (1 c);", 27),
            ("book () { a (1 b) to (1 c);;", 27), ("book () { a (-1 b) to (1 c);", 13),
            ("book (abcdefghijklm", 6), ("book (\t", 6), ("book (a)\t", 8), ("book (A)", 6),
        ):
            if place is None:
                self.assertEqual(read_book(text), Book([], []))
            else:
                self.assertEqual(self.wrong_place(text), place, text)
                self.assertEqual(plain_wrong_place(text, STATES, 17), place, text)

    def test_signs_ahead_of_and_behind_a_wrong_lexeme(self):
        self.assertEqual(self.wrong_place("book ( ) ) ["), 9)
        self.assertEqual(self.wrong_place("book ( ) [ )"), 9)
        self.assertEqual(self.wrong_place("[book"), 0)
        self.assertEqual(self.wrong_place("book () {} abcdefghijklm"), 11)
        self.assertEqual(self.wrong_place("book () {} ; abcdefghijklm"), 11)

    def test_a_wrong_place_comes_ahead_of_what_is_told_wrongly(self):
        self.assertEqual(self.wrong_place("book (a, a) { p (0 a) to (1 b); } }"), 34)
        self.assertEqual(self.wrong_place("book (a, a) {"), 13)

    def test_texts_cut_off_anywhere(self):
        squeezed = TEXT.replace(", ", ",").replace("\n", "")
        for text in (TEXT, squeezed, "book () {\n}\n"):
            for end in range(len(text)):
                place = plain_wrong_place(text[:end], STATES, 17)
                if place is None:
                    self.assertEqual(text[end:].strip(), "")
                    self.assertEqual(read_book(text[:end]), read_book(text))
                else:
                    self.assertEqual(self.wrong_place(text[:end]), place, text[:end])

    def test_drawn_wrong_texts(self):
        rng = random.Random(17)
        signs = [*"(){},; \n[B\t", "to", "book", "a", "coin", "0", "17", "a" * 13]
        for _ in range(3000):
            text = TEXT
            for _ in range(rng.randint(1, 2)):
                place = rng.randrange(len(text) + 1)
                text = text[:place] + rng.choice([*signs, ""]) + text[place + rng.choice([0, 0, 1, 2, 5]):]
            place = plain_wrong_place(text, STATES, 17)
            if place is not None:
                self.assertEqual(self.wrong_place(text), place, text)
                continue
            try:
                read_book(text)
            except BadBook:
                pass

    def test_long_texts(self):
        self.assertEqual(self.wrong_place("book (" + "a," * 9997), 20000)
        self.assertEqual(self.wrong_path("book (" + "a," * 9990 + "a) {}"), (0, 1))
        self.assertEqual(self.wrong_place("book (a, b) {" + "p(1a)to(1b);" * 1665), 19993)
        self.assertEqual(self.wrong_path("book (a, b) {" + "p(1a)to(1b);" * 1665 + "}"), (1, 1, 0))
        many = "book (a, b) {" + "".join(f"p{k}(1a)to(1b);" for k in range(1000)) + "}"
        self.assertEqual(read_book(many).row("p999"), (-1, 1))
        self.assertEqual(self.wrong_place(TEXT + " " * 19000 + "x"), len(TEXT) + 19000)
        self.assertEqual(read_book(TEXT + " \n" * 9000), coins())

    def test_what_is_told_wrongly(self):
        for text, path in (
            ("book (a, b, a) { }", (0, 2)),
            ("book (a, a, b, b) { }", (0, 1)),
            ("book (a, b) { p (1 a) to (1 b); p (1 a) to (1 b); }", (1, 1, 0)),
            ("book (a, b) { p (0 a) to (1 b); }", (1, 0, 1)),
            ("book (a, b) { p (1 a) to (0 b); }", (1, 0, 1)),
            ("book (a, b) { p (1 c) to (1 b); }", (1, 0, 1)),
            ("book (a, b) { p (1 a) to (1 p); }", (1, 0, 1)),
            ("book () { p (1 a) to (1 b); }", (1, 0, 1)),
            ("book (a, b) { p (1 a, 1 a) to (1 b); }", (1, 0, 1)),
            ("book (a, b) { p (1 a) to (1 b, 2 b); }", (1, 0, 1)),
            ("book (a, b) { p (2 a) to (1 a, 1 b); }", (1, 0, 1)),
            ("book (a, b) { p (1 a) to (1 b); q (1 b) to (1 b); }", (1, 1, 1)),
        ):
            self.assertEqual(self.wrong_path(text), path, text)

    def test_the_first_that_is_told_wrongly(self):
        for text, path in (
            ("book (a, a) { p (0 a) to (1 b); p (1 a) to (1 b); }", (0, 1)),
            ("book (a, b) { p (1 a) to (0 b); p (1 a) to (1 b); }", (1, 0, 1)),
            ("book (a, b) { p (1 a) to (1 b); p (1 a) to (0 b); }", (1, 1, 0)),
            ("book (a, b) { p (1 a) to (1 b); q (1 c) to (1 a); p (1 a) to (1 b); }", (1, 1, 1)),
            ("book (a, b) { p (1 a) to (1 b); p (1 c) to (1 a); q (0 a) to (1 b); }", (1, 1, 0)),
        ):
            self.assertEqual(self.wrong_path(text), path, text)

    def test_a_good_may_be_told_by_several_barters(self):
        book = read_book("book (a, b) { p (2 a) to (1 b); q (1 b) to (3 a); }")
        self.assertEqual(book, Book(["a", "b"], [("p", (-2, 1)), ("q", (3, -1))]))


if __name__ == "__main__":
    unittest.main()
