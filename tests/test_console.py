import random
import time
import unittest

from kindredbush.bags import Bag
from kindredbush.bars import bar_of, judge_bar
from kindredbush.coins import judge_way
from kindredbush.console import Console
from kindredbush.groves import Grove
from kindredbush.house import House
from kindredbush.lexemes import lexemes
from tests.support import GROVE, OTHER_GROVE, keeps_the_rules, ways_off
from tests.test_acts import DOMINO_GOAL, DOMINO_GROVE, HANG, LONE, P0, P1, ROOT, TWIN, plain_word, some_act
from tests.test_deeds import EMPTY
from tests.test_pieces import FREE, some_groves

# The forms of S10.8: what may come for each part, by the next lexeme.
MEMBERS = {
    "hang": "P P", "stretch": "P P P P", "allow": "N N", "forbid": "N N", "nail": "P", "free": "P", "fell": "#",
    "goal": "GOAL", "plant": "N ( JOINTS BUSH", "undo": "", "redo": "", "keep": "N", "show": "", "due": "", "left": "",
    "paid": "", "bar": "", "way": "", "nails": "", "at": "P", "where": "N", "to": "N",
}
PARTS = {
    "P": {"N": "N #"}, "BUSH": {"N": "N REST"}, "GOAL": {"{": "{ TOPS"}, "TOPS": {"}": "}", "N": "BUSH ; TOPS"},
    "PARTS": {",": ", BUSH PARTS", ")": ")"}, "JOINTS": {")": ")", "N": "JOINT MORE"}, "MORE": {",": ", JOINT MORE", ")": ")"},
    "JOINT": {"N": "N N ( NAMES"}, "NAMES": {")": ")", "N": "N NAMES2"}, "NAMES2": {",": ", N NAMES2", ")": ")"},
}
MAY_END = ("GOAL", "REST")
LINES = ["hang p 0 q 1", "stretch root 0 p 0 p 0 q 0", "allow b x", "forbid hang hang", "nail p 1", "free root 12", "fell 0",
         "goal", "goal { }", "goal { p ( q ( t ) , r ) ; x ; }", "plant x ( ) p", "plant x ( u a ( ) ) u ( v , w ( u ) )",
         "plant plant ( u a ( y , y ) , v b ( x ) , w c ( ) ) u ( goal )", "undo", "redo", "keep keep", "show", "due", "left",
         "paid", "bar", "way", "nails", "at p 0", "where where", "to goal"]


def sort_of(word):
    if word[0].isdigit():
        return "#"
    return "N" if word[0].isalpha() else word


def stepped(state, word):
    """What is still to come behind a word, or None if it cannot come. A state is a list of parts."""
    if state == ["LINE"]:
        return MEMBERS[word].split() if word in MEMBERS else None
    while state:
        part, state = state[0], state[1:]
        if part == "REST":
            if word == "(":
                return ["BUSH", "PARTS"] + state
        elif part in PARTS:
            told = PARTS[part].get(sort_of(word))
            if told is not None:
                state = told.split() + state
            elif part not in MAY_END:
                return None
        else:
            return state if part == sort_of(word) else None
    return None


def plain_place(words):
    """The first wrong place of words with blanks between, or None."""
    state, place = ["LINE"], 0
    for word in words:
        state = stepped(state, word)
        if state is None:
            return place
        place += len(word) + 1
    return None if all(part in MAY_END for part in state) else max(place - 1, 0)


def line_of(act):
    """A line that says an act."""
    word, members = act[0], act[1:]
    if word in ("hang", "stretch", "nail", "free"):
        return " ".join([word] + [f"{owner} {number}" for owner, number in members])
    if word == "goal":
        return "goal" if act[1] is None else "goal { " + "".join(bush_of(bush) + " ; " for bush in act[1]) + "}"
    if word == "plant":
        joints = ",".join(f"{name} {stem}({','.join(branches)})" for name, stem, branches in act[2])
        return f"plant {act[1]} ({joints}) {bush_of(act[3])}"
    return " ".join(map(str, act))


def bush_of(bush):
    """A bush with a blank behind each comma."""
    return bush[0] + ("(" + ", ".join(map(bush_of, bush[1:])) + ")" if bush[1:] else "")


def place_text(place):
    return f"{place[0]} {place[1]}"


def answers(house):
    """What the lines that change nothing answer."""
    left, way, goal = house.left(), house.way(), house.goal()
    bar = bar_of(house.kin())
    told = {"show": "; ".join(map(bush_of, house.grove().bushes())), "due": "none" if goal is None else str(house.due()),
            "left": "none" if left is None else str(left), "paid": str(house.paid()),
            "bar": "none" if bar is None else " ".join([bar[0], *bar[1]]),
            "way": "none" if way is None else "; ".join(" ".join([deed[0]] + [place_text(place) for place in deed[1:]])
                                                          for deed in way),
            "nails": ", ".join(map(place_text, house.nails()))}
    for place, name in house.grove().rows():
        told[f"at {place_text(place)}"] = name
        told[f"where {name}"] = place_text(place)
    for name in house.marks():
        mark, grove = house.marked(name), house.grove()
        alike = (mark.bag(), mark.roots()) == (grove.bag(), grove.roots())
        told[f"to {name}"] = str(house.due_to(name)) if alike else "no UnlikeGroves"
    for line in ("at nothere 0", "at root 99", "at p 8", "where nothere", "where root", "to nothere"):
        told[line] = "no UnknownName"
    return told


class Histories(unittest.TestCase):
    def test_word_by_word(self):
        """What is said to a console is done to a twin of its house."""
        chance = random.Random(380)
        for start in [GROVE, DOMINO_GROVE, TWIN, EMPTY, LONE] + some_groves(381, 3, 5):
            house = House(start)
            console = Console(house)
            for _ in range(60):
                self.step(chance, console, house.twin())
                before = house.twin()
                for line, answer in answers(house).items():
                    self.assertEqual(console.say(line), answer)
                self.assertIs(house == before, True)

    def step(self, chance, console, twin):
        kind = chance.random()
        if kind < 0.3:
            word, method, there = ("undo", twin.undo, twin.done()) if kind < 0.15 else ("redo", twin.redo, twin.undone())
            self.assertEqual(console.say(word), str(method()) if there else "no NothingDone")
        elif kind < 0.4:
            name = chance.choice(["a", "b", "goal"])
            twin.keep(name)
            self.assertEqual(console.say(f"keep {name}"), str(len(twin.marks())))
        else:
            act = some_act(chance, twin.stand())
            if act[0] == "fell" and act[1] < 0 or act[0] == "plant" and (len(twin.grove().rows()) > 7 or not act[3]
                                                                        or act[3].count(act[3][0]) > 1
                                                                        or not isinstance(act[3][0], str)):
                return
            word = plain_word(twin.stand(), act)
            answer = f"no BadAct {word}" if word else str(twin.do(act))
            self.assertEqual(console.say(line_of(act)), answer)
            self.assertEqual(console.say("no") , "no BadText 0")
            if word is None:
                self.assertEqual(twin.done()[-1], console.house().done()[-1])
        self.assertIs(console.house() == twin, True)


class Answers(unittest.TestCase):
    def say(self, console, *pairs):
        for line, answer in pairs:
            self.assertEqual(console.say(line), answer, line)

    def test_acts(self):
        house = House(GROVE)
        self.say(Console(house), ("hang p 0 p 1", "1"), ("show", "p(r, q(t))"), ("undo", "0"), ("redo", "1"),
                 ("redo", "no NothingDone"), ("hang p 1 p 0", "2"), ("stretch root 0 p 0 p 0 q 0", "3"),
                 ("show", "q(p(t, r))"), ("allow b x", "4"), ("forbid b x", "5"), ("forbid b y", "no BadAct stands"),
                 ("nail p 1", "6"), ("nail p 1", "no BadAct place"), ("nails", "p 1"), ("nail root 0", "7"),
                 ("nails", "root 0, p 1"), ("free p 1", "8"), ("nails", "root 0"), ("goal", "9"),
                 ("goal { q(p(t, r)); }", "10"), ("goal {q ( p(t,r) ) ;}", "11"), ("goal { }", "no BadAct grove"),
                 ("plant y (u b ()) u", "12"), ("show", "q(p(t, r)); u"), ("fell 1", "13"), ("fell 1", "no BadAct place"),
                 ("fell 0", "14"), ("show", ""), ("nails", ""), ("goal {}", "15"), ("goal { }", "16"), ("due", "0"))
        self.assertEqual(house.done()[8:11], [("goal", None), ("goal", (("q", ("p", ("t",), ("r",))),)),
                                              ("goal", (("q", ("p", ("t",), ("r",))),))])
        self.assertEqual(house.done()[11:14], [("plant", "y", (("u", "b", ()),), ("u",)), ("fell", 1), ("fell", 0)])
        self.assertEqual((house.done()[14], house.goal()), (("goal", ()), Grove(house.grove().bag(), (), [])))

    def test_what_is_told(self):
        console = Console(House(GROVE))
        self.say(console, ("due", "none"), ("left", "none"), ("way", "none"), ("paid", "0"), ("bar", "none"), ("nails", ""),
                 ("at p 1", "r"), ("at root 0", "p"), ("where q", "p 0"), ("where p", "root 0"), ("keep b", "1"),
                 ("keep a", "2"), ("keep b", "2"), ("to a", "0"), ("goal { q(p(t, r)); }", "1"), ("due", "2"), ("left", "2"),
                 ("way", "stretch root 0 p 0 p 0 q 0"), ("stretch root 0 p 0 p 0 q 0", "2"), ("way", ""), ("left", "0"),
                 ("paid", "2"), ("to a", "2"), ("plant y (u b ()) u", "3"), ("to a", "no UnlikeGroves"), ("due", "none"),
                 ("where a", "no UnknownName"), ("at r 0", "no UnknownName"), ("to c", "no UnknownName"),
                 ("at p 2", "no UnknownName"), ("at u 0", "no UnknownName"), ("where root", "no UnknownName"))

    def test_two_deeds(self):
        bag = Bag(FREE, [(name, "k", ()) for name in "abcd"])
        house = House(Grove(bag, ["l"] * 4, [(name,) for name in "abcd"]))
        console = Console(house)
        self.say(console, ("show", "a; b; c; d"), ("goal {b;a;d;c;}", "1"), ("left", "2"))
        lines = console.say("way").split("; ")
        self.assertEqual(sorted(lines), ["hang root 0 root 1", "hang root 2 root 3"])
        self.say(console, (lines[0], "2"), (lines[1], "3"), ("show", "b; a; d; c"), ("way", ""), ("left", "0"))

    def test_example(self):
        """S10.9."""
        console = Console(House(DOMINO_GROVE))
        self.say(console, ("show", "c(a(d, b(e)))"), ("goal { b(a(c(e), d)); }", "1"), ("due", "3"), ("left", "none"),
                 ("way", "none"), ("forbid c q", "no BadAct stands"))
        word, *colours = console.say("bar").split(" ")
        self.assertIs(judge_bar(console.house().kin(), (word, tuple(colours))), True)
        self.assertEqual(word, "domino")
        self.say(console, ("allow b w", "2"), ("due", "3"), ("left", "3"), ("bar", "none"), ("forbid c q", "no BadAct stands"))
        lines = console.say("way").split("; ")
        self.assertEqual([console.say(line) for line in lines], [str(3 + number) for number in range(len(lines))])
        self.say(console, ("left", "0"), ("show", "b(a(c(e), d))"), ("paid", "3"))
        self.assertEqual(console.house().goal().bushes(), DOMINO_GOAL.bushes())

    def test_many(self):
        house = House(GROVE)
        console = Console(house)
        for number in range(120):
            self.assertEqual(console.say("goal"), str(number + 1))
        self.say(console, ("goal", "no BadAct many"), ("goal {", "no BadText 6"), ("free p 0", "no BadAct place"),
                 ("undo", "119"), ("redo", "120"), ("keep a", "1"))

    def test_words_of_forms_as_names(self):
        bag = Bag(FREE, [("goal", "k", ("l",)), ("hang", "k", ())])
        console = Console(House(Grove(bag, ["l"], [("goal", ("hang",))])))
        self.say(console, ("nail goal 0", "1"), ("keep keep", "1"), ("where hang", "goal 0"), ("at goal 0", "hang"),
                 ("to keep", "0"), ("goal { goal(hang); }", "2"), ("show", "goal(hang)"),
                 ("plant l (undo k (l), redo k ()) undo(redo)", "3"), ("show", "goal(hang); undo(redo)"))


class WrongPlaces(unittest.TestCase):
    def test_ways_off(self):
        """Each beginning of a line of each form, and all that is one lexeme off, by the forms alone."""
        sorts = ["p", "goal", "undo", "0", "17", "(", ")", "{", "}", ",", ";"]
        met = [0, 0]
        for line in LINES:
            words = line.split(" ")
            self.assertEqual([lexeme for _, lexeme, _ in lexemes(line)], words)
            self.assertIsNone(plain_place(words), line)
            for tried in ways_off(words, sorts):
                house = House(GROVE)
                wanted = plain_place(tried)
                met[wanted is None] += 1
                answer = Console(house).say(" ".join(tried))
                if wanted is None:
                    self.assertFalse(answer.startswith("no BadText"), tried)
                else:
                    self.assertEqual(answer, f"no BadText {wanted}", tried)
                    self.assertIs(house == House(GROVE), True)
        self.assertGreater(min(met), 100)

    def test_gaps(self):
        for line, place in [("", 0), ("  \n ", 4), ("hang", 4), ("hang ", 5), ("hang p 0 p", 10), ("hang p 0 p 00", 12),
                            ("hang p 0 p 1 ;", 13), ("hang p0 p 1", 8), ("hang p -1", 7), ("Hang p 0 p 1", 0),
                            ("hang\tp 0 p 1", 4), ("show #", 5), ("#", 0), ("show show", 5), ("nothere", 0), ("12", 0),
                            ("goal (", 5), ("goal { p }", 9), ("goal { p; ", 10), ("goal { p; } ;", 12), ("goal { ; }", 7),
                            ("goal { p(); }", 9), ("goal { p(q,); }", 11), ("plant x p", 8), ("plant x () ", 11),
                            ("plant x (,) p", 9), ("plant x (u a ();) p", 15), ("plant x (u a (), ) p", 17),
                            ("plant x (u a x) p", 13), ("plant 0", 6), ("fell x", 5), ("fell", 4), ("fell 1 1", 7),
                            ("keep 1", 5), ("keep abcdefghijklm", 5), ("where p 0", 8), ("at p", 4), ("at 0 p", 3),
                            ("undo;", 4), ("goal goal", 5), ("allow b x z", 10), ("show%", 4), ("hang p 0 # p", 9),
                            ("hang # 0 p", 5), ("xang # 0 p", 0), ("to", 2), ("goal{p;}}", 8), ("nail p 1 \n\n(", 11)]:
            house = House(GROVE)
            self.assertEqual(Console(house).say(line), f"no BadText {place}", line)
            self.assertIs(house == House(GROVE), True)

    def test_gaps_that_may_be(self):
        for line, answer in [(" show\n", "p(q(t), r)"), ("hang\np 0\n\np 1", "1"), ("goal{q(p(t,r));}", "1"),
                             ("goal { q ( p ( t , r ) ) ; }", "1"), ("plant y(u b())u", "1"), ("where\nr", "p 1"),
                             ("plant\ny ( u a ( y , y ) , v b(),w b ( ) )u(v,w)", "1"), ("at p 1 ", "r")]:
            self.assertEqual(Console(House(GROVE)).say(line), answer, line)


class Rules(unittest.TestCase):
    def test_this_very_house(self):
        house = House(GROVE)
        console = Console(house)
        self.assertTrue(console.house() is house)
        house.do(HANG)
        self.assertEqual(console.say("show"), "p(r, q(t))")
        console.say("nail p 1")
        self.assertEqual(house.done(), [HANG, ("nail", P1)])
        other = Console(house)
        self.assertEqual((other.say("undo"), console.say("nails")), ("1", ""))

    def test_acts_of_tuples(self):
        house = House(GROVE)
        console = Console(house)
        for line in ("stretch root 0 p 0 p 0 q 0", "undo", "hang p 0 p 1", "plant y (u a (y), v b ()) u(v)", "fell 1",
                     "goal { p(r, q(t)); }", "nail root 0"):
            console.say(line)
        self.assertEqual(house.done(), [HANG, ("plant", "y", (("u", "a", ("y",)), ("v", "b", ())), ("u", ("v",))), ("fell", 1),
                                        ("goal", (("p", ("r",), ("q", ("t",))),)), ("nail", ROOT)])
        self.assertEqual(house.do(("hang", P0, P1)), 6)

    def test_repeated(self):
        house = House(GROVE)
        house.do(("goal", tuple(OTHER_GROVE.bushes())))
        for line in ("show", "way", "due", "at p 0", "where q", "bar", "nails", "hang", "to a"):
            keeps_the_rules(self, Console(house).say, line)

    def test_long_lines(self):
        start = time.monotonic()
        console = Console(House(GROVE))
        self.assertEqual(console.say("goal {" + " p;" * 6000 + "}"), "no BadAct grove")
        self.assertEqual(console.say("goal {" + " p;" * 6000), f"no BadText {6 + 3 * 6000}")
        self.assertEqual(console.say("show" + " " * 19000 + "#"), "no BadText 19004")
        self.assertEqual(console.say("goal { " + "p(" * 39 + "p" + ")" * 39 + "; }"), "no BadAct grove")
        self.assertEqual(console.say("at root " + "9" * 40), "no UnknownName")
        self.assertEqual(console.say("fell " + "9" * 40), "no BadAct place")
        self.assertLess(time.monotonic() - start, 10)

    def test_ways(self):
        """A way that is said line by line leads to the goal."""
        console = Console(House(GROVE))
        console.say("goal { p(r, q(t)); }")
        way = console.house().way()
        self.assertIsNone(judge_way(GROVE, console.house().goal(), way))
        for line in console.say("way").split("; "):
            console.say(line)
        self.assertEqual(console.say("left"), "0")
