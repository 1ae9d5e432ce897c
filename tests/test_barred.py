import itertools
import random
import time
import unittest

from kindredbush.bags import Bag
from kindredbush.barred import judge_unbuilt, possible_roots, unbuilt_paper
from kindredbush.building import reached_knots, unbalanced_pieces
from kindredbush.errors import TooGreat
from kindredbush.flows import flows
from kindredbush.ladders import Ladder, table_of
from tests.support import ODD_VALUES, cases, keeps_the_rules, raises
from tests.test_building import (EMPTY, FULL, LADDER, LOW, OWN, PIECES, PIECES_TABLE, TABLE, further_ladder, joints_at,
                                 plain_unbalanced)
from tests.test_flows import some_cases
from tests.test_groves import all_groves


def plain_paper(ladder, bag, roots, value):
    """S6.4 word by word, for a pair of the words and what may stand behind it."""
    word, told = value
    if word == "piece":
        return told in plain_unbalanced(ladder, bag, roots)
    if word == "flow":
        return flows(ladder, bag, roots)[told] < 0
    if list(told) != sorted(set(told)) or not all(ladder.place_home(colour) in told for colour in roots):
        return False
    for knot in told:
        for name in joints_at(ladder, bag, knot):
            if not all(ladder.place_home(colour) in told for colour in bag.branches(name)):
                return False
    for (one, other), flow in zip(ladder.arrows(), flows(ladder, bag, roots)):
        if flow > 0 and other in told and one not in told:
            return False
    return any(joints_at(ladder, bag, knot) for knot in ladder.knots() if knot not in told)


def all_values(ladder):
    """All pairs that may be papers of a ladder, and some in another sequence."""
    knots = ladder.knots()
    for size in range(len(knots) + 1):
        for some in itertools.combinations(sorted(knots), size):
            for told in {some, some[::-1], some + some[:1]}:
                yield ("piece", told)
                yield ("closed", told)
    for number in range(len(ladder.arrows())):
        yield ("flow", number)


class Papers(unittest.TestCase):
    def test_word_by_word(self):
        met = {}
        for joints in range(1, 6):
            for number, (ladder, bag, roots) in enumerate(some_cases(joints + 120, 400, joints)):
                paper = unbuilt_paper(ladder, bag, roots)
                met[paper and paper[0]] = met.get(paper and paper[0], 0) + 1
                if number % 10 > 0 and (paper is None or paper[0] != "closed"):
                    continue
                groves = all_groves(bag, roots)
                found = []
                for value in all_values(ladder):
                    holds = plain_paper(ladder, bag, roots, value)
                    self.assertIs(judge_unbuilt(ladder, bag, roots, value), holds, value)
                    if holds:
                        found.append(value)
                self.assertEqual(found == [], groves != [])
                self.assertEqual(paper, self.first(ladder, bag, roots, found))
        self.assertGreater(min(met[word] for word in (None, "piece", "flow", "closed")), 3, met)

    def first(self, ladder, bag, roots, found):
        told = [("piece", piece) for piece in unbalanced_pieces(ladder, bag, roots)]
        told += [("flow", number) for number in range(len(ladder.arrows()))]
        told += [("closed", tuple(reached_knots(ladder, bag, roots)))]
        return ([value for value in told if value in found] + [None])[0]

    def test_examples(self):
        self.assertIsNone(unbuilt_paper(LADDER, FULL, ("y", "y")))
        self.assertEqual(unbuilt_paper(LADDER, OWN, ["y"]), ("closed", ("v",)))
        self.assertEqual(unbuilt_paper(LADDER, LOW, ["x", "x"]), ("flow", 0))
        for value in [("flow", 0), ("closed", ("u",))]:
            self.assertIs(judge_unbuilt(LADDER, LOW, ["x", "x"], value), True)
            self.assertIs(judge_unbuilt(LADDER, FULL, ["y", "y"], value), False)
        self.assertIs(judge_unbuilt(LADDER, OWN, ["y"], ("closed", ("v",))), True)
        self.assertIs(judge_unbuilt(LADDER, OWN, ["y"], ("flow", 0)), False)

    def test_the_first_one(self):
        bag = Bag(PIECES_TABLE, [("j", "a", ()), ("k", "b", ())])
        self.assertEqual(unbuilt_paper(PIECES, bag, []), ("piece", ("v", "w")))
        self.assertEqual(unbuilt_paper(PIECES, bag, ["x"]), ("piece", ("t", "u")))
        self.assertIs(judge_unbuilt(PIECES, bag, [], ("piece", ("t", "u"))), True)
        self.assertIs(judge_unbuilt(PIECES, bag, [], ("piece", ("s",))), False)
        self.assertIs(judge_unbuilt(PIECES, bag, [], ("closed", ())), True)
        self.assertIs(judge_unbuilt(PIECES, bag, [], ("closed", ("s",))), True)

    def test_nothing(self):
        self.assertIsNone(unbuilt_paper(LADDER, EMPTY, []))
        self.assertEqual(unbuilt_paper(LADDER, EMPTY, ["x"]), ("piece", ("u", "v")))
        own = Bag(TABLE, [("s", "a", ("x",))])
        self.assertEqual(unbuilt_paper(LADDER, own, []), ("closed", ()))
        self.assertIs(judge_unbuilt(LADDER, own, [], ("closed", ())), True)
        self.assertIs(judge_unbuilt(LADDER, EMPTY, [], ("closed", ())), False)
        none = Ladder([], [], [], [])
        self.assertIsNone(unbuilt_paper(none, Bag(table_of(none, [], []), []), []))

    def test_anything(self):
        odd = [("piece", ["u", "v"]), ("piece", ("v", "u")), ("piece", ("u",)), ("flow", True), ("flow", False),
               ("flow", 1), ("flow", -1), ("flow", 10 ** 39), ("flow", "0"), ("flow", (0,)), ["flow", 0], ("flow", 0, 0),
               ("closed", ["u"]), ("closed", ("u", "u")), ("closed", ("v", "u")), ("closed", ("w",)), ("closed", "u"),
               ("closed", ("u", None)), ("closed", ("u", "w")), ("closed", ()), ("Flow", 0), ("flow",), "flow",
               ("closed", {"u": 1}), ("root", ("u",)), ("piece", "uv")]
        for value in cases(self, ODD_VALUES + odd):
            self.assertIs(judge_unbuilt(LADDER, LOW, ["x", "x"], value), False)
            self.assertIs(judge_unbuilt(LADDER, FULL, ["y", "y"], value), False)
        for value in cases(self, ODD_VALUES):
            for told in (("piece", value), ("flow", value), ("closed", (value,)), ("closed", ("u", value)), (value, 0),
                         (value, ("u",))):
                if told != ("flow", 0) or value is False:
                    self.assertIs(judge_unbuilt(LADDER, LOW, ["x", "x"], told), False)
            self.assertIs(judge_unbuilt(LADDER, LOW, ["x"], ("piece", value)), False)
            if value != ():
                self.assertIs(judge_unbuilt(LADDER, LOW, ["x", "x"], ("closed", value)), False)


class Roots(unittest.TestCase):
    def test_word_by_word(self):
        met = 0
        chance = random.Random(121)
        for joints in range(1, 5):
            for ladder, bag, _ in some_cases(joints + 130, 25, joints):
                many = joints - sum(len(branches) for _, _, branches in bag.joints())
                colours = sorted(bag.table().places())
                wanted = [roots for roots in itertools.combinations_with_replacement(colours, many)
                          if all_groves(bag, roots)]
                self.assertEqual(possible_roots(ladder, bag), sorted(wanted))
                self.assertEqual(possible_roots(further_ladder(chance, ladder), bag), sorted(wanted))
                met += len(wanted)
        self.assertGreater(met, 50)

    def test_examples(self):
        self.assertEqual(possible_roots(LADDER, EMPTY), [()])
        self.assertEqual(possible_roots(LADDER, FULL), [("x", "y"), ("y", "y")])
        self.assertEqual(possible_roots(LADDER, LOW), [("x", "y"), ("y", "y")])
        self.assertEqual(possible_roots(LADDER, OWN), [])
        self.assertEqual(possible_roots(LADDER, Bag(TABLE, [("s", "a", ("x",))])), [])
        self.assertEqual(possible_roots(LADDER, Bag(TABLE, [("s", "a", ("x", "x"))])), [])
        self.assertEqual(possible_roots(LADDER, Bag(TABLE, [("s", "a", ()), ("t", "a", ())])),
                         [("x", "x"), ("x", "y"), ("y", "y")])

    def test_strings(self):
        """Colours ascend as strings, whatever their order in the table."""
        ladder = Ladder(["u"], [], [("a", "u")], [("p9", "u"), ("p10", "u"), ("p", "u")])
        bag = Bag(table_of(ladder, ["a"], ["p9", "p10", "p"]), [("s", "a", ()), ("t", "a", ())])
        self.assertEqual(possible_roots(ladder, bag), [("p", "p"), ("p", "p10"), ("p", "p9"), ("p10", "p10"),
                                                       ("p10", "p9"), ("p9", "p9")])

    def test_too_great(self):
        joints = [(f"j{number}", "a", ()) for number in range(7)]
        raises(self, TooGreat, {}, possible_roots, LADDER, Bag(TABLE, joints))
        self.assertEqual(len(possible_roots(LADDER, Bag(TABLE, joints[:6]))), 7)
        self.assertEqual(len(possible_roots(LADDER, Bag(TABLE, joints + [("k", "a", ("x", "x"))]))), 7)
        raises(self, TooGreat, {}, possible_roots, LADDER, Bag(TABLE, joints + [("k", "a", ("x",))]))
        none = Ladder(["u"], [], [("a", "u")], [])
        raises(self, TooGreat, {}, possible_roots, none, Bag(table_of(none, ["a"], []), joints))
        self.assertEqual(possible_roots(none, Bag(table_of(none, ["a"], []), joints[:6])), [])


class Rules(unittest.TestCase):
    def test_rules(self):
        for call in [(unbuilt_paper, LADDER, OWN, ["y"]), (unbuilt_paper, LADDER, FULL, ["y", "y"]),
                     (unbuilt_paper, LADDER, LOW, ["x"]), (judge_unbuilt, LADDER, OWN, ["y"], ("closed", ("v",))),
                     (judge_unbuilt, LADDER, OWN, ["y"], [["closed"], {}]), (possible_roots, LADDER, FULL),
                     (possible_roots, LADDER, EMPTY)]:
            keeps_the_rules(self, *call)

    def test_eight_colours_and_six_roots(self):
        knots = [f"n{number}" for number in range(32)]
        ladder = Ladder(knots, list(zip(knots, knots[1:])), [(f"s{n}", knots[n]) for n in range(8)],
                        [(f"p{n}", knots[31 - n]) for n in range(8)])
        table = table_of(ladder, [f"s{n}" for n in range(8)], [f"p{n}" for n in range(8)])
        bag = Bag(table, [(f"j{n}", f"s{n % 8}", (f"p{n % 8}",) * (n < 24)) for n in range(30)])
        start = time.monotonic()
        self.assertEqual(len(possible_roots(ladder, bag)), 1716)
        self.assertLess(time.monotonic() - start, 20)
