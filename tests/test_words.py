import unittest

from kindredbush.words import is_number, is_word
from tests.support import ODD_VALUES

LETTERS = "abcdefghijklmnopqrstuvwxyz"
DIGITS = "0123456789"


class Words(unittest.TestCase):
    def test_words(self):
        for value in ["a", "z", "a0", "z9", "root", "table", "abcdefghijkl", "a12345678901"]:
            self.assertIs(is_word(value), True, value)

    def test_no_words(self):
        for value in ["", "0", "1a", "A", "aB", "a b", " a", "a ", "a\n", "\na", "a\t", "a_b", "a-b", "a.", "(",
                      "abcdefghijklm", "a123456789012", "a" * 500]:
            self.assertIs(is_word(value), False, value)

    def test_each_character(self):
        for code in list(range(32, 127)) + [9, 10]:
            sign = chr(code)
            self.assertIs(is_word(sign), sign in LETTERS)
            self.assertIs(is_word("a" + sign), sign in LETTERS + DIGITS)

    def test_what_is_no_string(self):
        for value in ODD_VALUES:
            if not isinstance(value, str):
                self.assertIs(is_word(value), False)
        self.assertIs(is_word(["a"]), False)
        self.assertIs(is_word(("a",)), False)


class Numbers(unittest.TestCase):
    def test_numbers(self):
        for value in [0, 1, 7, 10 ** 39]:
            self.assertIs(is_number(value), True)

    def test_no_numbers(self):
        for value in [-1, -10 ** 39, True, False, None, "0", "1", "a", (0,), [0], {0: 0}]:
            self.assertIs(is_number(value), False)
