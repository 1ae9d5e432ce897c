import unittest

from kindredbush.errors import BadText
from kindredbush.lexemes import lexemes
from tests.support import keeps_the_rules, raises


def strings(text):
    return [lexeme for sort, lexeme, place in lexemes(text)]


class Lexemes(unittest.TestCase):
    def test_sorts_and_places(self):
        self.assertEqual(lexemes("table (a1, b)\n{12;}"), [
            ("word", "table", 0), ("sign", "(", 6), ("word", "a1", 7), ("sign", ",", 9), ("word", "b", 11),
            ("sign", ")", 12), ("sign", "{", 14), ("number", "12", 15), ("sign", ";", 17), ("sign", "}", 18)])

    def test_each_letter_ends_a_number(self):
        for letter in "abcdefghijklmnopqrstuvwxyz":
            self.assertEqual(strings("12" + letter + "3"), ["12", letter + "3"])
            self.assertEqual(strings("0" + letter), ["0", letter])
            self.assertEqual(strings(letter + "0" + letter), [letter + "0" + letter])

    def test_nothing(self):
        for text in ["", " ", "\n", " \n \n"]:
            self.assertEqual(lexemes(text), [])

    def test_blanks_and_line_feeds(self):
        self.assertEqual(lexemes("\n a \n\n b \n"), [("word", "a", 2), ("word", "b", 7)])

    def test_numbers(self):
        self.assertEqual(lexemes("12ab"), [("number", "12", 0), ("word", "ab", 2)])
        self.assertEqual(lexemes("007"), [("number", "0", 0), ("number", "0", 1), ("number", "7", 2)])
        self.assertEqual(lexemes("0"), [("number", "0", 0)])
        self.assertEqual(strings("10 100 0a 01 90"), ["10", "100", "0", "a", "0", "1", "90"])
        self.assertEqual(strings("9" * 40), ["9" * 40])
        self.assertEqual(strings("1234567890123"), ["1234567890123"])
        self.assertEqual(strings("12(3"), ["12", "(", "3"])

    def test_words_of_12_and_13(self):
        self.assertEqual(lexemes("abcdefghijkl"), [("word", "abcdefghijkl", 0)])
        raises(self, BadText, {"place": 0}, lexemes, "abcdefghijklm")
        raises(self, BadText, {"place": 2}, lexemes, "a abcdefghijk10 b")
        self.assertEqual(strings("a abcdefghij10 b"), ["a", "abcdefghij10", "b"])
        self.assertEqual(strings("1234567890123a"), ["1234567890123", "a"])
        raises(self, BadText, {"place": 2}, lexemes, "12abcdefghijklm")
        raises(self, BadText, {"place": 0}, lexemes, "a" * 20000)

    def test_words_go_on_with_digits(self):
        self.assertEqual(lexemes("a0b00 z9"), [("word", "a0b00", 0), ("word", "z9", 6)])

    def test_signs(self):
        self.assertEqual(lexemes("(){},;"), [("sign", sign, number) for number, sign in enumerate("(){},;")])

    def test_each_character(self):
        for code in list(range(32, 127)) + [9, 10]:
            sign = chr(code)
            if sign in " \n":
                self.assertEqual(strings("a" + sign + "b"), ["a", "b"])
            elif sign in "(){},;":
                self.assertEqual(strings("a" + sign + "b"), ["a", sign, "b"])
            elif sign.isdigit() or sign.islower():
                self.assertEqual(strings("a" + sign + "b"), ["a" + sign + "b"])
                self.assertEqual(strings(sign), [sign])
            else:
                raises(self, BadText, {"place": 1}, lexemes, "a" + sign + "b")
                raises(self, BadText, {"place": 0}, lexemes, sign)

    def test_the_first_wrong_character(self):
        raises(self, BadText, {"place": 3}, lexemes, "a (.[")
        raises(self, BadText, {"place": 1}, lexemes, "a\tb")
        raises(self, BadText, {"place": 2}, lexemes, "\n\nA abcdefghijklm")
        raises(self, BadText, {"place": 4}, lexemes, "1234-5")
        raises(self, BadText, {"place": 3}, lexemes, "abcD")

    def test_long_texts(self):
        self.assertEqual(len(lexemes("(" * 20000)), 20000)
        self.assertEqual(len(lexemes("a " * 10000)), 10000)
        self.assertEqual(len(lexemes("0" * 20000)), 20000)

    def test_rules(self):
        keeps_the_rules(self, lexemes, "table (a, 10) {}")
