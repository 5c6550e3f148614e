"""stocks.py: [S4.1], [S4.6] and [S4.7]."""

import random
import unittest

from eitherbarter.books import Book
from eitherbarter.errors import BadStock, BadText
from eitherbarter.stocks import check_stock, is_stock, read_stock, stock_text
from tests.helpers import anything, drawn_books, money, pair, raised
from tests.test_lexemes import plain_lexemes, plain_wrong_place

TEXT = "stock {\na 7;\nb 0;\nc 0;\n}\n"

# The form of a stock as a table: what may come in a state, and the state behind it; 6 is the end.
STATES = {0: {"stock": 1}, 1: {"{": 2}, 2: {"}": 6, "WORD": 3}, 3: {"NUMBER": 4}, 4: {";": 2}, 6: {}}


def spoiled_texts(text):
    """The text with a lexeme left out, told twice, exchanged with the next one or replaced, and cut off anywhere."""
    lexemes = [lexeme for _, lexeme, _ in plain_lexemes(text)]
    texts = [text[:end] for end in range(len(text))]
    for k, lexeme in enumerate(lexemes):
        for between in (" ", "\n "):
            texts.append(between.join(lexemes[:k] + lexemes[k + 1:]))
            texts.append(between.join(lexemes[:k] + [lexeme] + lexemes[k:]))
            texts.append(between.join(lexemes[:k] + lexemes[k:k + 2][::-1] + lexemes[k + 2:]))
        for other in ("a", "zebra", "0", "17", "007", "(", ")", "{", "}", ",", ";", "[", "A", "\t", "x" * 13, "-1"):
            texts.append(" ".join(lexemes[:k] + [other] + lexemes[k + 1:]))
            texts.append(" ".join(lexemes[:k] + [other] + lexemes[k:]) + " ")
    return texts


class Stocks(unittest.TestCase):
    def check(self, book, value, path):
        self.assertIs(is_stock(book, value), path is None)
        self.assertEqual(raised(check_stock, book, value), None if path is None else (BadStock, path), value)

    def test_each_path(self):
        for value, path in (
            ((7, 0, 0), None), ((0, 0, 0), None), ((10 ** 40 - 1, 1, 2), None), ((7, 0), ()), ((7, 0, 0, 0), ()),
            ([7, 0, 0], ()), (None, ()), ("abc", ()), ({0: 1, 1: 2, 2: 3}, ()), ((), ()), (700, ()),
            ((-1, 0, 0), (0,)), ((0, -1, 0), (1,)), ((0, 0, -1), (2,)), ((0, -1, -1), (1,)), ((True, 0, 0), (0,)),
            ((0, False, 0), (1,)), ((0, 0, None), (2,)), ((0, "1", 0), (1,)), ((0, (1,), [2]), (1,)),
            ((0, 0, [0]), (2,)), ((None, -1, "a"), (0,)), ((7, 0, -(10 ** 40)), (2,)),
        ):
            self.check(pair(), value, path)
        self.assertIsNone(check_stock(pair(), (7, 0, 0)))

    def test_no_goods(self):
        self.check(Book([], []), (), None)
        for value in ([], None, (0,), 0, False, ""):
            self.check(Book([], []), value, ())

    def test_values_of_all_kinds(self):
        for value in anything():
            self.check(pair(), value, (0,) if type(value) is tuple and len(value) == 3 else ())
            number = type(value) is int and value >= 0
            self.check(pair(), (1, value, 2), None if number else (1,))
            self.check(pair(), (value, value, value), None if number else (0,))
            self.check(Book([], []), value, None if value == () and type(value) is tuple else ())

    def test_a_pair_of_goods_as_a_stock(self):
        self.check(Book(["a", "b"], []), (True, False), (0,))
        self.check(Book(["a", "b"], []), (None, None), (0,))


class Texts(unittest.TestCase):
    def test_written_texts(self):
        self.assertEqual(stock_text(pair(), (7, 0, 0)), TEXT)
        self.assertEqual(stock_text(Book([], []), ()), "stock {\n}\n")
        text = f"stock {{\ncent 5;\nnickel 1;\ndime 1{'0' * 39};\n}}\n"
        self.assertEqual(stock_text(money(), (5, 1, 10 ** 39)), text)
        book = Book(["to", "stock", "forward"], [("back", (-1, 1, 0))])
        self.assertEqual(stock_text(book, (1, 2, 3)), "stock {\nto 1;\nstock 2;\nforward 3;\n}\n")

    def test_read(self):
        for text in (
            TEXT, "stock{a 7;b 0;c 0;}", "stock{a7;b0;c0;}".replace("7", " 7").replace("0", " 0"),
            " \n stock \n { a\n7 ; b 0 ; c 0 ; } \n", TEXT.replace("\n", " "), TEXT.replace(" ", "\n"), TEXT.strip(),
        ):
            self.assertEqual(read_stock(pair(), text), (7, 0, 0), text)
        self.assertEqual(read_stock(Book([], []), "stock{}"), ())
        self.assertIs(type(read_stock(pair(), TEXT)), tuple)

    def test_there_and_back(self):
        rng = random.Random(221)
        for book in drawn_books(221, 60):
            stock = tuple(rng.choice([0, 1, 9, 10, rng.randint(0, 10 ** 40 - 1)]) for _ in book.goods())
            text = stock_text(book, stock)
            self.assertEqual(read_stock(book, text), stock)
            lines = ["stock {", *(f"{good} {number};" for good, number in zip(book.goods(), stock)), "}"]
            self.assertEqual(text, "\n".join(lines) + "\n")

    def test_words_of_the_forms_as_goods(self):
        words = ["stock", "script", "forward", "back", "book", "to"]
        book = Book(words, [])
        text = stock_text(book, (1, 2, 3, 4, 5, 6))
        self.assertEqual(read_stock(book, text), (1, 2, 3, 4, 5, 6))

    def test_wrong_places(self):
        for text, place in (
            ("", 0), ("  ", 2), ("stock", 5), ("stocks {}", 0), ("Stock {}", 0), ("script {}", 0), ("stock (", 6),
            ("stock {", 7), ("stock { a", 9), ("stock { 7", 8), ("stock { a b", 10), ("stock { a 7", 11),
            ("stock { a 7 }", 12), ("stock { a 7, b 0", 11), ("stock { a 7; ;", 13), ("stock { a -7;", 10),
            ("stock { a 07;", 11), ("stock { a 7; } }", 15), ("stock { } x", 10), ("stock { } [", 10),
            ("stock { a 7; [", 13), ("stock [ {", 6), ("stock { abcdefghijklm 7; }", 8), ("stock\t{", 5),
            ("stock { a 7;; }", 12), ("stock { a7; }", 10), ("stock { a 7 b 0; }", 12), ("7", 0), ("{", 0),
        ):
            self.assertEqual(raised(read_stock, pair(), text), (BadText, place), text)
            self.assertEqual(plain_wrong_place(text, STATES, 6), place, text)

    def test_texts_spoiled_anywhere(self):
        for text in spoiled_texts(TEXT) + spoiled_texts("stock {\n}\n"):
            place = plain_wrong_place(text, STATES, 6)
            if place is not None:
                self.assertEqual(raised(read_stock, pair(), text), (BadText, place), text)
            else:
                self.check_parts(text)

    def check_parts(self, text):
        """What comes of a text in the form of a stock of the book of S4.8."""
        words = text.replace(";", " ").replace("{", " ").replace("}", " ").split()[1:]
        goods = words[::2]
        if len(goods) != 3:
            self.assertEqual(raised(read_stock, pair(), text), (BadStock, ()), text)
        elif goods != ["a", "b", "c"]:
            first = next(k for k in range(3) if goods[k] != "abc"[k])
            self.assertEqual(raised(read_stock, pair(), text), (BadStock, (first,)), text)
        else:
            self.assertEqual(read_stock(pair(), text), tuple(int(word) for word in words[1::2]))

    def test_what_is_told_wrongly(self):
        for text, path in (
            ("stock {}", ()), ("stock { a 1; b 2; }", ()), ("stock { a 1; b 2; c 3; a 1; }", ()),
            ("stock { a 1; c 2; b 3; }", (1,)), ("stock { b 1; a 2; c 3; }", (0,)), ("stock { a 1; b 2; d 3; }", (2,)),
            ("stock { a 1; a 2; c 3; }", (1,)), ("stock { x 1; y 2; z 3; }", (0,)), ("stock { x 1; y 2; }", ()),
            ("stock { p 1; b 2; c 3; }", (0,)),
        ):
            self.assertEqual(raised(read_stock, pair(), text), (BadStock, path), text)
        self.assertEqual(raised(read_stock, Book([], []), "stock { a 1; }"), (BadStock, ()))
        self.assertEqual(raised(read_stock, Book(["a"], []), "stock { b 1; }"), (BadStock, (0,)))

    def test_a_wrong_place_comes_ahead_of_what_is_told_wrongly(self):
        self.assertEqual(raised(read_stock, pair(), "stock { x 1; } }"), (BadText, 15))
        self.assertEqual(raised(read_stock, pair(), "stock { a 1; b 2; c 3; a 1; "), (BadText, 28))

    def test_long_texts(self):
        self.assertEqual(raised(read_stock, pair(), "stock {" + "a 1;" * 4998), (BadText, 19999))
        self.assertEqual(raised(read_stock, pair(), "stock {" + "a 1;" * 4998 + "}"), (BadStock, ()))
        self.assertEqual(read_stock(pair(), TEXT + " \n" * 9900), (7, 0, 0))
        # Behind the first wrong place numbers may be of any length.
        self.assertEqual(raised(read_stock, pair(), "stock { a a " + "9" * 19000), (BadText, 10))


if __name__ == "__main__":
    unittest.main()
