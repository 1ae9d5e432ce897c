import unittest

from kindredbush.bags import Bag
from kindredbush.errors import BadBag, BadGrove, BadText
from kindredbush.grovetexts import bag_text, grove_text, read_bag, read_grove
from kindredbush.groves import Grove
from kindredbush.lexemes import lexemes
from kindredbush.tables import Table
from tests.support import (BAG, BUSH_TABLE, GROVE, OTHER_GROVE, check_cut_off, keeps_the_rules, place_by_states,
                           raises, ways_off)
from tests.test_groves import WIDE_BAG, WIDE_BUSHES, WIDE_ROOTS, all_groves

BAG_TEXT = "bag {\njoint p a (y, x);\njoint q a (y);\njoint r a ();\njoint t b ();\n}\n"
GROVE_TEXT = "grove (x) {\np(q(t), r);\n}\n"
EMPTY_BAG = Bag(BUSH_TABLE, [])

# The words of the forms as colours and names.
ODD_TABLE = Table(["bag", "root"], ["grove", "joint"], [("bag", "grove"), ("root", "joint"), ("bag", "joint")])
ODD_BAG = Bag(ODD_TABLE, [("joint", "bag", ("joint", "joint")), ("bag", "root", ()), ("grove", "bag", ("grove",)),
                          ("hang", "bag", ())])
ODD_GROVE = Grove(ODD_BAG, ["grove"], [("joint", ("bag",), ("grove", ("hang",)))])

# What may follow in the text of a bag, state by state.
BAG_STATES = {
    "begin": {"bag": "open"}, "open": {"{": "joint"}, "joint": {"}": "end", "joint": "name"},
    "name": {"NAME": "stem"}, "stem": {"NAME": "list"}, "list": {"(": "first"},
    "first": {")": "stop", "NAME": "more"}, "more": {",": "next", ")": "stop"}, "next": {"NAME": "more"},
    "stop": {";": "joint"}, "end": {},
}
# And in that of a grove, where deep and low are the states in a bush and behind it.
GROVE_STATES = {
    "begin": {"grove": "list"}, "list": {"(": "first"}, "first": {")": "open", "NAME": "more"},
    "more": {",": "next", ")": "open"}, "next": {"NAME": "more"}, "open": {"{": "top"}, "end": {},
}


def is_name(word):
    return word.isalnum() and word[0].isalpha()


def bag_step(state, word):
    told = BAG_STATES[state]
    return told.get(word, told.get("NAME") if is_name(word) else None)


def grove_step(state, word):
    """A state of a bush is a pair: how many parentheses are open, and what was read last."""
    if isinstance(state, str) and state != "top":
        told = GROVE_STATES[state]
        return told.get(word, told.get("NAME") if is_name(word) else None)
    if state == "top":
        return "end" if word == "}" else ((0, "name") if is_name(word) else None)
    depth, last = state
    if last in ("(", ","):
        return (depth, "name") if is_name(word) else None
    if word == "(" and last == "name":
        return (depth + 1, "(")
    if word in (",", ")") and depth > 0:
        return (depth - (word == ")"), word)
    return "top" if word == ";" and depth == 0 else None


def strings(text):
    return [lexeme for sort, lexeme, place in lexemes(text)]


class Written(unittest.TestCase):
    def test_examples(self):
        self.assertEqual(bag_text(BAG), BAG_TEXT)
        self.assertEqual(grove_text(GROVE), GROVE_TEXT)
        self.assertEqual(grove_text(OTHER_GROVE), "grove (x) {\nq(p(t, r));\n}\n")

    def test_nothing(self):
        self.assertEqual(bag_text(EMPTY_BAG), "bag {\n}\n")
        self.assertEqual(grove_text(Grove(EMPTY_BAG, [], [])), "grove () {\n}\n")

    def test_sign_by_sign(self):
        self.assertEqual(bag_text(ODD_BAG), "bag {\njoint joint bag (joint, joint);\njoint bag root ();\n"
                                            "joint grove bag (grove);\njoint hang bag ();\n}\n")
        self.assertEqual(grove_text(ODD_GROVE), "grove (grove) {\njoint(bag, grove(hang));\n}\n")
        self.assertEqual(grove_text(Grove(WIDE_BAG, WIDE_ROOTS, WIDE_BUSHES)),
                         "grove (y, x) {\nb(d);\na(g, c(e), f);\n}\n")

    def test_back(self):
        for bag, roots in [(BAG, ("x",)), (WIDE_BAG, WIDE_ROOTS), (ODD_BAG, ("grove",)), (EMPTY_BAG, ())]:
            self.assertEqual(read_bag(bag.table(), bag_text(bag)), bag)
            groves = all_groves(bag, roots)
            self.assertTrue(groves)
            for grove in groves[:60]:
                self.assertEqual(read_grove(bag, grove_text(grove)), grove)


class Read(unittest.TestCase):
    def test_in_other_ways(self):
        for text in ["bag{joint p a(y,x);joint q a(y);joint r a();joint t b();}", " \n".join(strings(BAG_TEXT)),
                     "\n " + BAG_TEXT + "\n ", BAG_TEXT.replace("\n", "")]:
            self.assertEqual(read_bag(BUSH_TABLE, text), BAG)
        for text in ["grove(x){p(q(t),r);}", "\n".join(strings(GROVE_TEXT)), " " + GROVE_TEXT + " ",
                     "grove ( x ) { p ( q ( t ) , r ) ; }"]:
            self.assertEqual(read_grove(BAG, text), GROVE)
        self.assertEqual(read_bag(BUSH_TABLE, "bag{}"), EMPTY_BAG)
        self.assertEqual(read_grove(EMPTY_BAG, "grove(){}"), Grove(EMPTY_BAG, [], []))

    def test_words_of_forms_as_names(self):
        self.assertEqual(read_bag(ODD_TABLE, "bag { joint joint bag (joint, joint); joint bag root (); "
                                             "joint grove bag (grove); joint hang bag (); }"), ODD_BAG)
        self.assertEqual(read_grove(ODD_BAG, "grove (grove) { joint(bag, grove(hang)); }"), ODD_GROVE)

    def test_deep_bushes(self):
        """40 joints below one another."""
        table = Table(["a"], ["x"], [("a", "x")])
        names = [f"j{number}" for number in range(40)]
        bag = Bag(table, [(name, "a", ("x",)) for name in names[:39]] + [("j39", "a", ())])
        text = "grove (x) {" + "(".join(names) + ")" * 39 + ";}"
        grove = read_grove(bag, text)
        self.assertEqual(grove.walk(), names)
        self.assertEqual(grove_text(grove), "grove (x) {\n" + "(".join(names) + ")" * 39 + ";\n}\n")


class WrongPlaces(unittest.TestCase):
    def bag(self, text):
        """The ! marks the wrong place."""
        raises(self, BadText, {"place": text.index("!")}, read_bag, BUSH_TABLE, text.replace("!", ""))

    def grove(self, text):
        raises(self, BadText, {"place": text.index("!")}, read_grove, BAG, text.replace("!", ""))

    def test_cut_off(self):
        for text in [BAG_TEXT, "bag{}"]:
            check_cut_off(self, lambda cut: read_bag(BUSH_TABLE, cut), text)
        for text in [GROVE_TEXT, "grove (x, y, x) { p(q, r, t(p)); q; r(r(r)); }", "grove(){}"]:
            check_cut_off(self, lambda cut: read_grove(BAG, cut), text)

    def test_bags(self):
        for text in ["!", "  !", "!bags {}", "!grove {}", "!{}", "!12", "bag !() {}", "bag !a {}", "bag { ![",
                     "bag { !p a (); }", "bag { !; }", "bag { joint !(); }", "bag { joint p !(); }",
                     "bag { joint p a!; }", "bag { joint p a !b (); }", "bag { joint p a (!,); }",
                     "bag { joint p a (x,!); }", "bag { joint p a (x !y); }", "bag { joint p a (x!;",
                     "bag { joint p a () !}", "bag { joint p a ();!; }", "bag { joint !0 a (); }",
                     "bag { joint p a (!12ab); }", "bag { joint p !007 (); }", "bag { joint !abcdefghijklm a (); }",
                     "bag {}!}", "bag {} !bag {}", "bag {} !_", "bag { joint p a (x!.", "bag { joint p a ()!\t; }"]:
            self.bag(text)

    def test_groves(self):
        for text in ["!", "!bag {}", "!groves", "grove !{ p; }", "grove !p", "grove (x) !p", "grove (x) { !(p); }",
                     "grove (x) { p(!); }", "grove (x) { p(q,!); }", "grove (x) { p(q!; }", "grove (x) { p(q)!(r); }",
                     "grove (x) { p!, q; }", "grove (x) { p!); }", "grove (x) { p(q)!); }", "grove (x) { p !q; }",
                     "grove (x) { p(q !r); }", "grove (x) { p!}", "grove (x) { p(q)!}", "grove (x) { !; }",
                     "grove (x) { p;!; }", "grove (x) { !1; }", "grove (x) { p(!1); }", "grove (x) { p(q, !(r)); }",
                     "grove (x!.) {}", "grove (x) {!_}", "grove (x) {} !p", "grove (x) {}!;", "grove (!;) {}",
                     "grove (x) { p(q(r(t(!", "grove (x) { p(q(r(t)))!"]:
            self.grove(text)

    def test_all_short_ways_off(self):
        sorts = ["(", ")", "{", "}", ",", ";", "name", "bag", "joint", "grove", "12", "0"]
        for text, step, read, error in [
                ("bag { joint p a (y, x); joint q a (); }", bag_step, lambda one: read_bag(BUSH_TABLE, one), BadBag),
                ("grove (x, y) { p(q(t), r); p; }", grove_step, lambda one: read_grove(BAG, one), BadGrove)]:
            for words in ways_off(strings(text), sorts):
                told = "".join(word + " " for word in words)
                place = place_by_states(words, "begin", step, "end")
                with self.subTest(text=told):
                    if place is not None:
                        raises(self, BadText, {"place": place}, read, told)
                    else:
                        try:
                            read(told)
                        except error:
                            pass


class WrongParts(unittest.TestCase):
    def test_bags(self):
        for path, text in [((0, 0), "bag { joint root a (); }"), ((1, 0), "bag { joint p a (); joint p b (x, x); }"),
                           ((0, 1), "bag { joint p x (); }"), ((0, 2, 1), "bag { joint p a (x, a); joint p q (); }"),
                           ((2, 1), "bag { joint p a (); joint q a (); joint r r (r); }")]:
            raises(self, BadBag, {"path": path}, read_bag, BUSH_TABLE, text)
        raises(self, BadBag, {"path": (0, 1)}, read_bag, Table([], [], []), BAG_TEXT)

    def test_groves(self):
        for path, text in [((0, 1), "grove (x, a) { s; }"), ((1,), "grove (x) { }"), ((1,), "grove (x) { p; q; }"),
                           ((1, 0, 0), "grove (x) { s(p); }"), ((1, 0, 0), "grove (x) { root; }"),
                           ((1, 0, 2, 0), "grove (x) { p(q(r), t); }"), ((1, 0), "grove (x) { p(q(t)); }"),
                           ((1, 0, 1, 0), "grove (x) { p(p, r); }"), ((1, 0, 1), "grove (x) { p(q, t(t)); }"),
                           ((), "grove (x) { r; }"), ((1, 1, 0), "grove (y, x) { r; t; }")]:
            raises(self, BadGrove, {"path": path}, read_grove, BAG, text)

    def test_behind_a_wrong_place(self):
        raises(self, BadText, {"place": 36}, read_bag, BUSH_TABLE, "bag { joint root s (s); joint p a ()")
        raises(self, BadText, {"place": 16}, read_grove, BAG, "grove (s) { s(s)s; }")


class Rules(unittest.TestCase):
    def test_rules(self):
        keeps_the_rules(self, bag_text, BAG)
        keeps_the_rules(self, grove_text, GROVE)
        keeps_the_rules(self, read_bag, BUSH_TABLE, BAG_TEXT)
        keeps_the_rules(self, read_grove, BAG, GROVE_TEXT)

    def test_long_texts(self):
        """Texts of 20,000 characters, with many joints, branches, roots and bushes."""
        table = Table(["a"], ["x"], [("a", "x")])
        names = [f"n{number}" for number in range(900)]
        text = "bag {" + "".join(f"joint {name} a (x);" for name in names) + "}"
        bag = read_bag(table, text)
        self.assertEqual(bag.names(), names)
        wide = read_bag(table, "bag { joint p a (" + ",".join("x" * 9000) + "); }")
        self.assertEqual(len(wide.branches("p")), 9000)
        leaves = Bag(table, [(name, "a", ()) for name in names])
        text = "grove (" + ",".join("x" * 900) + ") {" + ";".join(names) + ";}"
        self.assertEqual(read_grove(leaves, text).walk(), names)
        broad = Bag(table, [("top", "a", ("x",) * 900)] + leaves.joints())
        grove = read_grove(broad, "grove (x) { top(" + ",".join(names) + "); }")
        self.assertEqual(read_grove(broad, grove_text(grove)), grove)
        raises(self, BadText, {"place": 20000}, read_grove, leaves, "grove (x) {" + "p;" * 9994 + "p")
