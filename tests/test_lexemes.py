"""lexemes.py: [S1.7], and the wrong places of [S1.8] that no form has a part in."""

import random
import re
import unittest

from eitherbarter.errors import BadText
from eitherbarter.lexemes import lexemes

PLAIN = re.compile(r"(?P<word>[a-z][a-z0-9]*)|(?P<number>0|[1-9][0-9]*)|(?P<sign>[(){},;])|(?P<blank>[ \n]+)")


def plain_lexemes(text):
    """The list of the lexemes, or the first place at which none begins."""
    found, place = [], 0
    while place < len(text):
        match = PLAIN.match(text, place)
        if match is None or match.lastgroup == "word" and len(match.group()) > 12:
            return place
        if match.lastgroup != "blank":
            found.append((match.lastgroup, match.group(), place))
        place = match.end()
    return found


def plain_wrong_place(text, states, end):
    """The first wrong place by a table, or None.

    The table tells for each state of a form what may come in it and the state behind that; the form ends in one,
    or in each of several.
    """
    stop = plain_lexemes(text)
    if isinstance(stop, int):
        found = plain_lexemes(text[:stop])
    else:
        found, stop = stop, None
    state = 0
    for sort, lexeme, place in found:
        state = states[state].get(lexeme) or states[state].get({"word": "WORD", "number": "NUMBER"}.get(sort))
        if state is None:
            return place
    if stop is None and state not in (end if isinstance(end, tuple) else (end,)):
        return len(text)
    return stop


class Lexemes(unittest.TestCase):
    def wrong_place(self, text):
        with self.assertRaises(BadText) as caught:
            lexemes(text)
        return caught.exception.place

    def test_sorts(self):
        self.assertEqual(lexemes("book (a1, b) { 20x; }"), [
            ("word", "book", 0), ("sign", "(", 5), ("word", "a1", 6), ("sign", ",", 8), ("word", "b", 10),
            ("sign", ")", 11), ("sign", "{", 13), ("number", "20", 15), ("word", "x", 17), ("sign", ";", 18),
            ("sign", "}", 20),
        ])

    def test_each_sign_is_a_lexeme_by_itself(self):
        self.assertEqual(lexemes("(){},;;,}{)("), [("sign", sign, k) for k, sign in enumerate("(){},;;,}{)(")])

    def test_nothing(self):
        for text in ("", " ", "\n", " \n  \n"):
            self.assertEqual(lexemes(text), [])

    def test_blanks_and_line_feeds(self):
        self.assertEqual(lexemes(" \n a\n\n7 \n"), [("word", "a", 3), ("number", "7", 6)])
        self.assertEqual(self.wrong_place("a\tb"), 1)
        self.assertEqual(self.wrong_place("\t"), 0)

    def test_numbers(self):
        self.assertEqual(lexemes("12ab"), [("number", "12", 0), ("word", "ab", 2)])
        self.assertEqual(lexemes("007"), [("number", "0", 0), ("number", "0", 1), ("number", "7", 2)])
        self.assertEqual(lexemes("0"), [("number", "0", 0)])
        self.assertEqual(lexemes("100 10"), [("number", "100", 0), ("number", "10", 4)])
        self.assertEqual(lexemes("0a0"), [("number", "0", 0), ("word", "a0", 1)])
        self.assertEqual(self.wrong_place("-1"), 0)
        self.assertEqual(self.wrong_place("1.5"), 1)
        self.assertEqual(lexemes("9" * 40), [("number", "9" * 40, 0)])
        self.assertEqual(lexemes("1" + "0" * 9999), [("number", "1" + "0" * 9999, 0)])
        self.assertEqual(lexemes("9876543210abc"), [("number", "9876543210", 0), ("word", "abc", 10)])

    def test_words_of_twelve_and_of_thirteen_characters(self):
        self.assertEqual(lexemes("abcdefghijkl"), [("word", "abcdefghijkl", 0)])
        self.assertEqual(lexemes("a12345678901"), [("word", "a12345678901", 0)])
        self.assertEqual(self.wrong_place("abcdefghijklm"), 0)
        self.assertEqual(self.wrong_place("a123456789012"), 0)
        self.assertEqual(self.wrong_place("ok (abcdefghijklm)"), 4)
        self.assertEqual(lexemes("7abcdefghijkl"), [("number", "7", 0), ("word", "abcdefghijkl", 1)])
        self.assertEqual(self.wrong_place("7abcdefghijklm"), 1)

    def test_other_characters(self):
        for code in range(32, 127):
            sign = chr(code)
            if sign.isalnum() and sign == sign.lower() or sign in "(){},; ":
                self.assertEqual(len(lexemes("," + sign)), 1 if sign == " " else 2)
            else:
                self.assertEqual(self.wrong_place(", " + sign), 2)
                self.assertEqual(self.wrong_place("ab" + sign + "$"), 2)

    def test_the_first_of_several_is_told(self):
        self.assertEqual(self.wrong_place("a [ b ] $"), 2)
        self.assertEqual(self.wrong_place("a abcdefghijklm ["), 2)

    def test_drawn_texts(self):
        rng = random.Random(3)
        for _ in range(3000):
            text = "".join(rng.choice("aabzz0012379(){},;  \n[A\t-") for _ in range(rng.randint(0, 25)))
            if rng.random() < 0.7:
                text = re.sub(r"[\[A\t-]", "", text)
            expected = plain_lexemes(text)
            if isinstance(expected, int):
                self.assertEqual(self.wrong_place(text), expected, text)
            else:
                self.assertEqual(lexemes(text), expected, text)

    def test_long_texts(self):
        self.assertEqual(len(lexemes("a," * 10000)), 20000)
        self.assertEqual(lexemes(" " * 19999 + "x"), [("word", "x", 19999)])
        self.assertEqual(self.wrong_place("a" * 20000), 0)
        self.assertEqual(self.wrong_place(" " * 19999 + "X"), 19999)

    def test_new_lists(self):
        first = lexemes("a b")
        first.clear()
        self.assertEqual(lexemes("a b"), [("word", "a", 0), ("word", "b", 2)])
        self.assertIs(type(lexemes("a b")[0]), tuple)


if __name__ == "__main__":
    unittest.main()
