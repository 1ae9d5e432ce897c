import random
import unittest

from kindredbush.deeds import all_deeds, canonical, deed_back, done
from kindredbush.errors import BadDeed, BadText
from kindredbush.lexemes import lexemes
from kindredbush.scripts import first_bad, price, read_script, script_back, script_text, steps, walked
from tests.support import GROVE, ODD_VALUES, cases, check_cut_off, keeps_the_rules, place_by_states, raises, ways_off
from tests.test_deeds import EMPTY, GROVES, P0, P1, Q0, ROOT, STUCK
from tests.test_pieces import chain_of

HANG = ("hang", P0, P1)
SWAP = ("stretch", ROOT, P0, P0, Q0)
MOVE = ("stretch", P0, Q0, P1, P1)
TEXT = "script {\nhang p 0 p 1;\nstretch root 0 p 0 p 0 q 0;\n}\n"

STATES = {"begin": {"script": "open"}, "open": {"{": "deed"}, "end": {}, 0: {";": "deed"},
          "deed": {"}": "end", "hang": 4, "stretch": 8}}


def script_step(state, word):
    """A state within a deed is the number of names and numbers that are missing."""
    if isinstance(state, int) and state > 0:
        is_name = word.isalnum() and word[0].isalpha()
        good = is_name if state % 2 == 0 else word.isdigit() and (word == "0" or word[0] != "0")
        return state - 1 if good else None
    return STATES[state].get(word)


def some_script(chance, grove, most):
    """A script of up to most deeds, canonical or not."""
    found = []
    for _ in range(most):
        deeds = all_deeds(grove)
        if deeds:
            deed = chance.choice(deeds)
            half = len(deed) // 2
            found.append(chance.choice([deed, (deed[0], *deed[1 + half:], *deed[1:1 + half])]))
            grove = done(grove, deed)
    return found


class Walked(unittest.TestCase):
    def test_word_by_word(self):
        chance = random.Random(6)
        for start in GROVES:
            script = some_script(chance, start, 8)
            groves, back = [start], []
            for deed in script:
                back.insert(0, deed_back(groves[-1], deed))
                groves.append(done(groves[-1], deed))
            for told in (script, tuple(script)):
                self.assertEqual(steps(start, told), groves)
                self.assertEqual(walked(start, told), groves[-1])
                self.assertEqual(script_back(start, told), back)
                self.assertIsNone(first_bad(start, told))
            self.assertEqual(steps(groves[-1], back), groves[::-1])
            self.assertEqual(price(script), sum(1 if deed[0] == "hang" else 2 for deed in script))
            self.assertEqual(price(back), price(script))
            self.assertEqual(back, [canonical(start.bag(), start.roots(), deed) for deed in back])

    def test_examples(self):
        self.assertEqual([grove.bushes() for grove in steps(GROVE, [HANG, ("hang", P1, P0), SWAP])],
                         [[("p", ("q", ("t",)), ("r",))], [("p", ("r",), ("q", ("t",)))],
                          [("p", ("q", ("t",)), ("r",))], [("q", ("p", ("t",), ("r",)))]])
        self.assertEqual(script_back(GROVE, [MOVE]), [("stretch", P0, P0, P1, Q0)])
        self.assertEqual(script_back(GROVE, [HANG, ("hang", P1, P0), SWAP]), [("stretch", ROOT, Q0, Q0, P0), HANG, HANG])

    def test_a_place_goes_with_its_owner(self):
        """("p", 0) is the branch of p wherever p stands by then."""
        grove = walked(GROVE, [SWAP, ("stretch", ROOT, Q0, Q0, P0), HANG])
        self.assertEqual(grove.bushes(), [("p", ("r",), ("q", ("t",)))])
        self.assertEqual(first_bad(GROVE, [SWAP, SWAP]), 1)

    def test_nothing(self):
        for grove in (GROVE, STUCK, EMPTY):
            for script in ([], ()):
                self.assertEqual(steps(grove, script), [grove])
                self.assertEqual(walked(grove, script), grove)
                self.assertEqual(script_back(grove, script), [])
                self.assertIsNone(first_bad(grove, script))
                self.assertEqual(price(script), 0)

    def test_prices(self):
        self.assertEqual([price([]), price([HANG]), price([SWAP]), price([HANG, SWAP, MOVE, HANG])], [0, 1, 2, 6])


class Bad(unittest.TestCase):
    def bad(self, number, grove, script):
        for told in (script, tuple(script)):
            self.assertEqual(first_bad(grove, told), number)
            for function in (steps, walked, script_back):
                raises(self, BadDeed, {"number": number}, function, grove, told)

    def test_members(self):
        for value in cases(self, ODD_VALUES + [("hang", P1, Q0), ["hang", P0, P1], "hang"]):
            self.bad(0, GROVE, [value])
            self.bad(0, GROVE, [value, value])
            self.bad(1, GROVE, [HANG, value])
            self.bad(3, GROVE, [HANG, HANG, SWAP, value, HANG, None])
            self.bad(0, EMPTY, [value])
            self.bad(0, STUCK, [value, HANG])

    def test_a_deed_at_the_wrong_turn(self):
        self.bad(1, GROVE, [MOVE, MOVE])
        self.bad(2, GROVE, [HANG, HANG, ("hang", P1, Q0)])

    def test_no_list(self):
        for value in cases(self, [one for one in ODD_VALUES if not isinstance(one, (list, tuple))] + ["hang", {0: HANG}]):
            self.assertEqual(first_bad(GROVE, value), 0)
            self.assertEqual(first_bad(EMPTY, value), 0)

    def test_a_deed_is_no_script(self):
        self.assertEqual(first_bad(GROVE, HANG), 0)
        for value in cases(self, [one for one in ODD_VALUES if isinstance(one, (list, tuple)) and one]):
            self.assertEqual(first_bad(GROVE, value), 0)


class Texts(unittest.TestCase):
    def test_examples(self):
        self.assertEqual(script_text([HANG, SWAP]), TEXT)
        self.assertEqual(script_text((HANG,)).split("\n")[1], "hang p 0 p 1;")
        self.assertEqual(script_text([]), "script {\n}\n")
        self.assertEqual(read_script(TEXT), [HANG, SWAP])
        self.assertEqual(read_script("script {\n}\n"), [])

    def test_whatever_grove_they_are_for(self):
        great = 10 ** 39 + 7
        deeds = [("hang", ("hang", 0), ("hang", 0)), ("stretch", ("stretch", 12), ("script", great), ("root", 9), ("a1", 0))]
        text = f"script {{\nhang hang 0 hang 0;\nstretch stretch 12 script {great} root 9 a1 0;\n}}\n"
        self.assertEqual(script_text(deeds), text)
        self.assertEqual(read_script(text), deeds)
        for told in read_script(text):
            for place in told[1:]:
                self.assertIs(type(place[1]), int)

    def test_in_other_ways(self):
        for text in ["script{hang p 0p 1;stretch root 0p 0p 0q 0;}", "\n".join(strings(TEXT)), " \n" + TEXT + "\n ",
                     "script{hang\np\n0p\n1;stretch root 0 p 0 p 0 q 0 ; } "]:
            self.assertEqual(read_script(text), [HANG, SWAP])

    def test_back(self):
        chance = random.Random(7)
        for start in GROVES:
            script = some_script(chance, start, 6)
            self.assertEqual(read_script(script_text(script)), script)
            self.assertIsNone(first_bad(start, read_script(script_text(script))))


def strings(text):
    return [lexeme for sort, lexeme, place in lexemes(text)]


class WrongPlaces(unittest.TestCase):
    def test_cut_off(self):
        for text in [TEXT, "script{}", "script { hang k 0 k 1; hang k 9 l 1; }"]:
            check_cut_off(self, read_script, text)

    def test_texts(self):
        """The ! marks the wrong place."""
        for text in ["!", "!hang p 0 p 1;", "script !p 0", "script { !p 0 p 1; }", "script { hang !0 p p 1; }",
                     "script { hang p !p 0 1; }", "script { hang p 0 !1; }", "script { hang p 0 p 0!0; }",
                     "script { hang p 0!0 p 1; }", "script { hang p 0!7 p 1; }", "script { hang p 0 p 1 !p 0; }",
                     "script { hang p 0 !; }", "script { hang p 0 p 1 !}", "script { hang p 0 p 1;!; }",
                     "script { stretch p 0 p 1!; }", "script { stretch p 0 p 1 p 0 p !p; }", "script { !; }",
                     "script { stretch p 0 p 1 p 0 p 1 !p 0; }", "script { hang p !-1 p 1; }", "script {}!}",
                     "script {} !script {}", "script { hang p 0 p !", "script { hang p 0!, p 1; }", "script { !hangs",
                     "script { hang !(p 0) (p 1); }", "script !() {}", "script { ![", "script { hang p 1!.5 p 0; }",
                     "script { hang !12ab 0; }", "script { !stretches p 0", "script { hang !abcdefghijklm 0"]:
            with self.subTest(text=text):
                raises(self, BadText, {"place": text.index("!")}, read_script, text.replace("!", ""))

    def test_all_short_ways_off(self):
        sorts = ["(", ")", "{", "}", ",", ";", "name", "hang", "stretch", "script", "12", "0"]
        for words in ways_off(strings("script { hang p 0 q 1; stretch a 0 b 3 c 0 d 4; }"), sorts):
            text = "".join(word + " " for word in words)
            place = place_by_states(words, "begin", script_step, "end")
            with self.subTest(text=text):
                if place is not None:
                    raises(self, BadText, {"place": place}, read_script, text)
                else:
                    self.assertEqual(strings(script_text(read_script(text))), words)


class Rules(unittest.TestCase):
    def test_rules(self):
        for call in [(steps, GROVE, [HANG, HANG, SWAP]), (walked, GROVE, [HANG]), (script_back, GROVE, [HANG, HANG, MOVE]),
                     (first_bad, GROVE, [HANG, [HANG]]), (price, [HANG, SWAP]), (script_text, [HANG, SWAP]),
                     (read_script, TEXT), (steps, GROVE, [])]:
            keeps_the_rules(self, *call)

    def test_long_scripts(self):
        """60 deeds with 30 joints; a text of 20,000 characters."""
        grove = chain_of([f"j{number}" for number in range(30)])
        script = []
        for number in range(28):
            upper, lower = (f"j{number}", 0), (f"j{number + 1}", 0)
            script.append(("stretch", ROOT, upper, upper, lower))
            script.append(("stretch", ROOT, lower, lower, upper))
        self.assertEqual(walked(grove, script), grove)
        self.assertEqual(steps(walked(grove, script), script_back(grove, script)), steps(grove, script)[::-1])
        self.assertEqual(price(script), 112)
        text = "script {" + "hang p 0 p 1;" * 1537 + "}"
        self.assertEqual(read_script(text), [HANG] * 1537)
        raises(self, BadText, {"place": 19989}, read_script, text[:-1])
