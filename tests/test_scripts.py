"""scripts.py: [S4.3], [S4.4], [S4.6] and [S4.8]."""

import random
import unittest

from eitherbarter.books import Book
from eitherbarter.errors import BadDeed, BadText
from eitherbarter.scripts import (
    first_bad, price, read_script, script_back, script_text, stocks_along, walked,
)
from tests.helpers import (
    anything, drawn_books, money, nested, pair, plain_deeds, plain_step, plain_walk, plus, raised,
)
from tests.test_lexemes import plain_wrong_place
from tests.test_stocks import spoiled_texts

SCRIPT = [("p", 1), ("p", 1), ("p", 1), ("q", 1)]
TEXT = "script {\nforward p;\nback q;\nforward p;\n}\n"

# The form of a script as a table: what may come in a state, and the state behind it; 5 is the end.
STATES = {0: {"script": 1}, 1: {"{": 2}, 2: {"}": 5, "forward": 3, "back": 3}, 3: {"WORD": 4}, 4: {";": 2}, 5: {}}


def drawn_script(rng, book, stock, most):
    """A script of at most so many deeds that can be done, drawn deed by deed."""
    script = []
    for _ in range(rng.randint(0, most)):
        can = [deed for deed in plain_deeds(book) if plain_step(book, stock, deed) is not None]
        if not can:
            break
        script.append(rng.choice(can))
        stock = plain_step(book, stock, script[-1])
    return script


class Scripts(unittest.TestCase):
    def test_the_example(self):
        book = pair()
        self.assertEqual(
            stocks_along(book, (7, 0, 0), SCRIPT), [(7, 0, 0), (5, 1, 0), (3, 2, 0), (1, 3, 0), (1, 0, 2)],
        )
        self.assertEqual(walked(book, (7, 0, 0), SCRIPT), (1, 0, 2))
        back = [("q", -1), ("p", -1), ("p", -1), ("p", -1)]
        self.assertEqual(script_back(book, (7, 0, 0), SCRIPT), back)
        self.assertEqual(walked(book, (1, 0, 2), back), (7, 0, 0))
        self.assertEqual(price(book, [1, 5], SCRIPT), 8)
        self.assertEqual(price(book, (1, 5), back), 8)
        self.assertIsNone(first_bad(book, (7, 0, 0), SCRIPT))
        self.assertEqual(first_bad(book, (7, 0, 0), SCRIPT[3:] + SCRIPT[:3]), 0)

    def test_the_empty_script(self):
        for book, stock in ((pair(), (7, 0, 0)), (Book([], []), ()), (Book(["a"], []), (3,))):
            for empty in ([], ()):
                self.assertEqual(stocks_along(book, stock, empty), [stock])
                self.assertEqual(walked(book, stock, empty), stock)
                self.assertEqual(script_back(book, stock, empty), [])
                self.assertIsNone(first_bad(book, stock, empty))
                self.assertEqual(price(book, [1] * len(book.names()), empty), 0)

    def check_bad(self, book, stock, script, number):
        for function in (stocks_along, walked, script_back):
            self.assertEqual(raised(function, book, stock, script), (BadDeed, number), script)
        self.assertEqual(first_bad(book, stock, script), number)

    def test_the_first_bad_member(self):
        for script, number in (
            ([("q", 1)], 0), ([("p", 1), ("q", 1)], 1), ([("p", 1), ("p", -1), ("p", -1)], 2),
            ([("p", 1)] * 4, 3), ([("p", 1), None, ("q", 1)], 1), ([["p", 1], ("p", 1)], 0), ([("p", 1), ("p", 0)], 1),
            ([("p", 1), ("nothing", 1), None], 1), (SCRIPT + [("q", 1)], 4), ([("p", True)], 0), ([SCRIPT], 0),
            ([("p", 1), ("p", 1), ("p", 1), ["q", 1]], 3),
        ):
            self.check_bad(pair(), (7, 0, 0), script, number)
            self.check_bad(pair(), (7, 0, 0), tuple(script), number)

    def test_values_of_all_kinds_as_members(self):
        for value in anything():
            self.check_bad(pair(), (7, 0, 0), [("p", 1), value], 1)
            self.check_bad(pair(), (7, 0, 0), (value, ("p", 1)), 0)
            self.check_bad(pair(), (7, 0, 0), SCRIPT + [(value, 1)], 4)
            if type(value) is not int or value not in (1, -1):
                self.check_bad(pair(), (7, 0, 0), SCRIPT[:2] + [("p", value)], 2)

    def test_values_of_all_kinds_as_scripts(self):
        for value in anything():
            empty = type(value) in (list, tuple) and len(value) == 0
            self.assertEqual(first_bad(pair(), (7, 0, 0), value), None if empty else 0)
        for value in (None, "pp", {("p", 1): 1}, 5, True, {}):
            self.assertEqual(first_bad(pair(), (7, 0, 0), value), 0)
        self.assertEqual(first_bad(pair(), (7, 0, 0), nested(40)), 0)

    def test_drawn_scripts(self):
        rng = random.Random(241)
        for book in drawn_books(241, 80):
            stock = tuple(rng.randint(0, 20) for _ in book.goods())
            script = drawn_script(rng, book, stock, 30)
            stocks = plain_walk(book, stock, script)
            self.assertEqual(stocks_along(book, stock, script), stocks)
            self.assertEqual(walked(book, stock, tuple(script)), stocks[-1])
            back = script_back(book, stock, script)
            self.assertEqual(stocks_along(book, stocks[-1], back), stocks[::-1])
            self.assertEqual(script_back(book, stocks[-1], back), script)
            prices = [rng.randint(0, 10 ** 12) for _ in book.names()]
            total = sum(dict(zip(book.names(), prices))[name] for name, _ in script)
            self.assertEqual((price(book, prices, script), price(book, prices, back)), (total, total))
            self.assertEqual(price(book, prices, script[::-1]), total)
            more = tuple(rng.randint(0, 3) for _ in stock)
            self.assertEqual(stocks_along(book, plus(stock, more), script), [plus(one, more) for one in stocks])

    def test_drawn_spoiled_scripts(self):
        rng = random.Random(242)
        for book in drawn_books(242, 80):
            stock = tuple(rng.randint(0, 6) for _ in book.goods())
            deeds = plain_deeds(book)
            script = drawn_script(rng, book, stock, 12) + ([rng.choice(deeds)] * 3 if deeds else [])
            rng.shuffle(script)
            stocks = plain_walk(book, stock, script)
            if len(stocks) > len(script):
                self.assertEqual(stocks_along(book, stock, script), stocks)
                self.assertIsNone(first_bad(book, stock, script))
            else:
                self.check_bad(book, stock, script, len(stocks) - 1)

    def test_sixty_deeds_and_great_stocks(self):
        stock = (10 ** 40 - 1, 0, 10 ** 39)
        script = [("p", 1)] * 55 + [("q", 1)] * 5
        self.assertEqual(walked(pair(), stock, script), (10 ** 40 - 111, 40, 10 ** 39 + 10))
        self.assertEqual(price(pair(), [10 ** 12, 10 ** 12 - 1], script), 60 * 10 ** 12 - 5)

    def test_the_price_of_what_cannot_be_done(self):
        self.assertEqual(price(pair(), [1, 5], [("q", 1), ("q", -1), ("p", -1)]), 11)


class Texts(unittest.TestCase):
    def test_written_texts(self):
        self.assertEqual(script_text([("p", 1), ("q", -1), ("p", 1)]), TEXT)
        self.assertEqual(script_text((("p", 1), ("q", -1), ("p", 1))), TEXT)
        self.assertEqual(script_text([]), "script {\n}\n")
        self.assertEqual(script_text(()), "script {\n}\n")
        self.assertEqual(
            script_text([("forward", -1), ("back", 1), ("script", 1)]),
            "script {\nback forward;\nforward back;\nforward script;\n}\n",
        )

    def test_read(self):
        script = [("p", 1), ("q", -1), ("p", 1)]
        for text in (
            TEXT, "script{forward p;back q;forward p;}", " script\n{ forward p ;\n\nback  q; forward\np; } ",
            TEXT.replace(" ", "\n"), TEXT.replace("\n", " "), TEXT.rstrip(),
        ):
            self.assertEqual(read_script(text), script, text)
        self.assertEqual(read_script("script{}"), [])
        self.assertIs(type(read_script(TEXT)), list)
        self.assertIs(type(read_script(TEXT)[0]), tuple)

    def test_words_of_the_forms_as_names(self):
        script = [(name, way) for name in ("forward", "back", "script", "stock", "to") for way in (1, -1)]
        self.assertEqual(read_script(script_text(script)), script)

    def test_there_and_back(self):
        rng = random.Random(243)
        for book in drawn_books(243, 40):
            deeds = plain_deeds(book)
            script = [rng.choice(deeds) for _ in range(rng.randint(0, 60))] if deeds else []
            text = script_text(script)
            lines = [f"{'forward' if way == 1 else 'back'} {name};" for name, way in script]
            self.assertEqual(text, "\n".join(["script {", *lines, "}"]) + "\n")
            self.assertEqual(read_script(text), script)

    def test_wrong_places(self):
        for text, place in (
            ("", 0), ("\n ", 2), ("script", 6), ("scripts {", 0), ("stock {}", 0), ("script (", 7), ("script {", 8),
            ("script { p;", 9), ("script { forward", 16), ("script { forward;", 16), ("script { forward 7;", 17),
            ("script { forward p", 18), ("script { forward p q", 19), ("script { forward p }", 19),
            ("script { forward p,", 18), ("script { back p; ;", 17), ("script { back p; } }", 19),
            ("script { } forward", 11), ("script { } [", 11), ("script { [", 9), ("script { Forward", 9),
            ("script { forwards p;", 9), ("script { forward abcdefghijklm;", 17), ("script { forward\tp;", 16),
            ("script { forward p; 1", 20), ("script { forward }", 17), ("script { back back back;", 19),
        ):
            self.assertEqual(raised(read_script, text), (BadText, place), text)
            self.assertEqual(plain_wrong_place(text, STATES, 5), place, text)

    def test_texts_spoiled_anywhere(self):
        for text in spoiled_texts(TEXT) + spoiled_texts("script {\n}\n") + spoiled_texts("script { back forward; }"):
            place = plain_wrong_place(text, STATES, 5)
            if place is not None:
                self.assertEqual(raised(read_script, text), (BadText, place), text)
            else:
                words = text.replace(";", " ").replace("{", " ").replace("}", " ").split()[1:]
                ways = [1 if word == "forward" else -1 for word in words[::2]]
                self.assertEqual(read_script(text), list(zip(words[1::2], ways)))

    def test_long_texts(self):
        self.assertEqual(len(read_script("script{" + "back p;" * 2850 + "}")), 2850)
        self.assertEqual(raised(read_script, "script{" + "back p;" * 2850), (BadText, 19957))
        self.assertEqual(raised(read_script, "script { 1" + "0" * 19000), (BadText, 9))

    def test_money(self):
        script = [("split", 1), ("change", -1)]
        self.assertEqual(read_script(script_text(script)), script)
        self.assertEqual(stocks_along(money(), (5, 0, 1), script), [(5, 0, 1), (5, 2, 0), (0, 3, 0)])


if __name__ == "__main__":
    unittest.main()
