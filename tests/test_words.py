"""words.py: words, integers and numbers ([0.3], [0.2])."""

import unittest

from eitherbarter.words import is_integer, is_number, is_word
from tests.helpers import anything


class Words(unittest.TestCase):
    def test_words(self):
        for value in ("a", "z", "a0", "z9", "abc", "to", "book", "a1b2c3", "abcdefghijkl", "a12345678901"):
            self.assertIs(is_word(value), True, value)

    def test_no_words(self):
        for value in ("", "0", "1a", "9", "A", "aB", "Z", "a b", " a", "a ", "a_b", "_a", "a-b", "a\n", "\na", "a\t",
                      "abcdefghijklm", "a123456789012", "a.", "(", "`a", "{a", "a`", "a{", "a/", "a:", "~", "@"):
            self.assertIs(is_word(value), False, value)

    def test_signs_beside_the_letters_and_digits(self):
        for code in range(32, 127):
            sign = chr(code)
            self.assertIs(is_word(sign), "a" <= sign <= "z", sign)
            self.assertIs(is_word("b" + sign + "c"), "a" <= sign <= "z" or "0" <= sign <= "9", sign)

    def test_values_of_all_kinds_are_no_words(self):
        for value in anything():
            self.assertIs(is_word(value), value == "unknown", value)


class Numbers(unittest.TestCase):
    def test_integers(self):
        for value in (0, 1, -1, 10 ** 40, -(10 ** 40)):
            self.assertIs(is_integer(value), True)
            self.assertIs(is_number(value), value >= 0)

    def test_true_and_false_are_none(self):
        for value in (True, False):
            self.assertIs(is_integer(value), False)
            self.assertIs(is_number(value), False)

    def test_values_of_all_kinds(self):
        for value in anything():
            self.assertIs(is_integer(value), type(value) is int)
            self.assertIs(is_number(value), type(value) is int and value >= 0)


if __name__ == "__main__":
    unittest.main()
