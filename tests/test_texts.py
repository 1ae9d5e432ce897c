import random
import unittest

from kindredbush.errors import BadFits, BadText
from kindredbush.lexemes import lexemes
from kindredbush.tables import Table
from kindredbush.texts import read_table, table_text
from tests.support import (T, all_tables, check_cut_off, keeps_the_rules, place_by_states, raises, some_table,
                           ways_off)

TEXT = "table (a, b) (x, y, z) {\na x;\na y;\nb y;\nb z;\n}\n"
EMPTY_TEXT = "table () () {\n}\n"
SORTS = ["(", ")", "{", "}", ",", ";", "name", "table", "12", "0"]

# The form of a table's text as a machine: for each state what may follow, and the state behind it.
LIST_STATES = {
    "list1": {"(": "first1"}, "first1": {")": "list2", "name": "more1"},
    "more1": {",": "next1", ")": "list2"}, "next1": {"name": "more1"},
    "list2": {"(": "first2"}, "first2": {")": "open", "name": "more2"},
    "more2": {",": "next2", ")": "open"}, "next2": {"name": "more2"},
}
STATES = {
    "begin": {"table": "list1"}, "open": {"{": "fit"}, "fit": {"}": "end", "name": "fit2"},
    "fit2": {"name": "fit3"}, "fit3": {";": "fit"}, "end": {}, **LIST_STATES,
}


def step(state, word):
    """The state behind a word, or None."""
    told = STATES[state]
    return told.get(word, told.get("name") if word.isalnum() and word[0].isalpha() else None)


class Written(unittest.TestCase):
    def test_examples(self):
        self.assertEqual(table_text(T), TEXT)
        self.assertEqual(table_text(Table([], [], [])), EMPTY_TEXT)

    def test_sign_by_sign(self):
        self.assertEqual(table_text(Table(["a"], [], [])), "table (a) () {\n}\n")
        self.assertEqual(table_text(Table([], ["a"], [])), "table () (a) {\n}\n")
        self.assertEqual(table_text(Table(["b", "a"], ["a"], [("a", "a"), ("b", "a")])),
                         "table (b, a) (a) {\nb a;\na a;\n}\n")

    def test_back(self):
        for table in all_tables(["table", "b"], ["y", "table"]):
            self.assertEqual(read_table(table_text(table)), table)

    def test_back_with_24_colours(self):
        chance = random.Random(4)
        names = [f"colour{n}" for n in range(24)]
        table = some_table(chance, names, names[::-1], 0.5)
        self.assertEqual(read_table(table_text(table)), table)


class Read(unittest.TestCase):
    def test_in_other_ways(self):
        for text in ["table(a,b)(x,y,z){a x;a y;b y;b z;}", TEXT.replace(" ", "\n"), "\n " + TEXT + " \n",
                     "table(a,b)(x,y,z){b z;a y;b y;a x;}",
                     TEXT.replace("\n", ""), " ".join(strings(TEXT)), "\n\n".join(strings(TEXT))]:
            self.assertEqual(read_table(text), T)
        self.assertEqual(read_table("table()(){}"), Table([], [], []))

    def test_names_are_any_words(self):
        table = Table(["table", "table1"], ["table"], [("table", "table")])
        self.assertEqual(read_table("table (table, table1) (table) { table table; }"), table)


def strings(text):
    return [lexeme for sort, lexeme, place in lexemes(text)]


class WrongPlaces(unittest.TestCase):
    def wrong(self, place, text):
        raises(self, BadText, {"place": place}, read_table, text)

    def test_examples(self):
        self.wrong(6, "table [")
        self.wrong(8, "table (a.")
        self.wrong(0, "stable [")

    def test_cut_off(self):
        for text in [TEXT, EMPTY_TEXT, "table(a)(b){a b;}"]:
            check_cut_off(self, read_table, text)

    def test_nothing(self):
        self.wrong(0, "")
        self.wrong(3, " \n ")
        self.wrong(6, "table ")

    def test_characters(self):
        self.wrong(0, "[")
        self.wrong(5, "table\t() () {}")
        self.wrong(13, "table () () {.}")
        self.wrong(14, "table () () {}.")
        self.wrong(16, "table () () {}\n Table")
        self.wrong(7, "table (abcdefghijklm) () {}")
        self.wrong(0, "Table () () {}")
        self.wrong(0, "tablE () () {}")
        self.wrong(0, "tables () () {}")
        self.wrong(0, "abcdefghijklm")

    def test_a_wrong_lexeme_ahead_of_a_wrong_character(self):
        self.wrong(6, "table a [")
        self.wrong(6, "table {}[")
        self.wrong(9, "table (a b [")
        self.wrong(5, "table.() a")

    def test_lists(self):
        self.wrong(9, "table (a,) () {}")
        self.wrong(7, "table (,a) () {}")
        self.wrong(9, "table (a,,b) () {}")
        self.wrong(9, "table (a b) () {}")
        self.wrong(8, "table (a(b)) () {}")
        self.wrong(7, "table (1) () {}")
        self.wrong(8, "table (a;) () {}")
        self.wrong(9, "table () {}")
        self.wrong(12, "table () () () {}")

    def test_fits(self):
        self.wrong(16, "table () () {a b}")
        self.wrong(14, "table () () {a;}")
        self.wrong(17, "table () () {a b c;}")
        self.wrong(16, "table () () {a b, c d;}")
        self.wrong(13, "table () () {;}")
        self.wrong(13, "table () () {1 b;}")
        self.wrong(15, "table () () {a 0;}")
        self.wrong(17, "table () () {a b;;}")
        self.wrong(14, "table () () {a, b;}")

    def test_behind_the_end(self):
        self.wrong(14, "table () () {}a")
        self.wrong(14, "table () () {}}")
        self.wrong(16, "table () () {}  table () () {}")

    def test_ahead_of_wrong_parts(self):
        self.wrong(23, "table (a, a) (x, x) {} ;")
        self.wrong(22, "table (a) (x) {b x;a x")
        self.wrong(28, "table (a) (x) {b x;b x;a x;}.")

    def test_numbers_are_no_names(self):
        self.wrong(7, "table (007) () {}")
        self.wrong(7, "table (12ab) () {}")
        self.wrong(0, "12ab")
        self.wrong(0, "0")

    def test_all_short_ways_off(self):
        """Each lexeme behind each beginning of a text, and the text without or with one more lexeme."""
        words = strings("table (a, b) (x) {a x; b x;}")
        for one in ways_off(words, SORTS):
            text = "".join(word + " " for word in one)
            place = place_by_states(one, "begin", step, "end")
            with self.subTest(text=text):
                if place is not None:
                    self.wrong(place, text)
                else:
                    try:
                        read_table(text)
                    except BadFits:
                        pass


class WrongParts(unittest.TestCase):
    def wrong(self, path, text):
        raises(self, BadFits, {"path": path}, read_table, text)

    def test_paths(self):
        self.wrong((0, 1), "table (a, a) (x, x) {b y;}")
        self.wrong((1, 2), "table (a) (x, y, x) {b y;}")
        self.wrong((2, 0, 0), "table (a) (x) {b y;}")
        self.wrong((2, 1, 1), "table (a) (x) {a x; a a;}")
        self.wrong((2, 2), "table (a) (x, y) {a x; a y; a x; b x;}")
        self.wrong((2, 0, 0), "table () () {a b;}")


class Rules(unittest.TestCase):
    def test_rules(self):
        keeps_the_rules(self, table_text, T)
        keeps_the_rules(self, read_table, TEXT)

    def test_long_texts(self):
        names = [f"n{number}" for number in range(2000)]
        text = "table (" + ", ".join(names) + ") () {}"
        self.assertEqual(read_table(text), Table(names, [], []))
        text = "table (" + ",".join(names[:1500]) + ") (" + ",".join(names[:1500]) + ") {" + "}"
        self.assertEqual(len(read_table(text).places()), 1500)
        fits = "".join(f"{one} {one};" for one in names[700::-1])
        text = "table (" + ",".join(names[:701]) + ") (" + ",".join(names[:701]) + ") {" + fits + "}"
        self.assertEqual(read_table(text).fits(), [(one, one) for one in names[:701]])
        raises(self, BadText, {"place": 7}, read_table, "table ((" + "(" * 19990)
        raises(self, BadText, {"place": 20000}, read_table, "table () () {" + " " * 19987)
