import random
import time
import unittest

from kindredbush.bags import Bag, colour_of, places_of
from kindredbush.barred import judge_unbuilt, unbuilt_paper
from kindredbush.building import built, can_build, reached_knots, unbalanced_pieces
from kindredbush.errors import Unbuilt
from kindredbush.flows import flows
from kindredbush.groves import Grove
from kindredbush.ladders import Ladder, table_of
from tests.support import keeps_the_rules, raises, some_bag, some_ladder
from tests.test_flats import great_case
from tests.test_flows import some_cases
from tests.test_groves import all_groves

# The ladder of S6.5.
LADDER = Ladder(["u", "v"], [("u", "v")], [("a", "u"), ("b", "v")], [("x", "u"), ("y", "v")])
TABLE = table_of(LADDER, ["a", "b"], ["x", "y"])
FULL = Bag(TABLE, [("s", "a", ("x",)), ("t", "a", ()), ("r", "b", ())])
OWN = Bag(TABLE, [("s", "a", ("x",)), ("r", "b", ())])
LOW = Bag(TABLE, [("t", "a", ()), ("r", "b", ())])
EMPTY = Bag(TABLE, [])
# Two pieces, with knots and colours that the table has not.
PIECES = Ladder(["w", "v", "t", "u", "s"], [("w", "v"), ("t", "u")], [("a", "w"), ("b", "t"), ("c", "s")],
                [("x", "v"), ("y", "u"), ("z", "s")])
PIECES_TABLE = table_of(PIECES, ["a", "b"], ["x", "y"])


def joints_at(ladder, bag, knot):
    return [name for name in bag.names() if ladder.stem_home(bag.stem(name)) == knot]


def places_at(ladder, bag, roots, knot):
    return [place for place in places_of(bag, roots) if ladder.place_home(colour_of(bag, roots, place)) == knot]


def plain_unbalanced(ladder, bag, roots):
    """S6.1 word by word."""
    return [tuple(sorted(piece)) for piece in ladder.pieces()
            if sum(len(joints_at(ladder, bag, knot)) for knot in piece)
            != sum(len(places_at(ladder, bag, roots, knot)) for knot in piece)]


def plain_reached(ladder, bag, roots):
    """S6.2 word by word, until no rule brings another knot."""
    found = {ladder.place_home(colour) for colour in roots}
    while True:
        more = {ladder.place_home(colour) for knot in found for name in joints_at(ladder, bag, knot)
                for colour in bag.branches(name)}
        more |= {one for (one, other), flow in zip(ladder.arrows(), flows(ladder, bag, roots))
                 if flow > 0 and other in found}
        if more <= found:
            return sorted(found)
        found |= more


def further_ladder(chance, ladder):
    """The ladder with some knots and colours more, in another sequence."""
    knots = ladder.knots() + ["more1", "more2", "more3"]
    arrows = ladder.arrows() + [("more1", "more2"), (chance.choice(ladder.knots()), "more1")]
    chance.shuffle(knots)
    chance.shuffle(arrows)
    return Ladder(knots, arrows, [("extra", chance.choice(knots))] + ladder.stem_homes(),
                  [("extra", "more3")] + ladder.place_homes() + [("more", "more2")])


class Pieces(unittest.TestCase):
    def test_word_by_word(self):
        for joints in range(2, 9):
            for ladder, bag, roots in some_cases(joints + 100, 40, joints):
                self.assertEqual(unbalanced_pieces(ladder, bag, roots), plain_unbalanced(ladder, bag, roots))
                self.assertEqual(reached_knots(ladder, bag, list(roots)), plain_reached(ladder, bag, roots))

    def test_examples(self):
        self.assertEqual(unbalanced_pieces(LADDER, FULL, ("y", "y")), [])
        self.assertEqual(reached_knots(LADDER, FULL, ("y", "y")), ["u", "v"])
        self.assertEqual(unbalanced_pieces(LADDER, OWN, ["y"]), [])
        self.assertEqual(reached_knots(LADDER, OWN, ["y"]), ["v"])
        self.assertEqual(reached_knots(LADDER, LOW, ["x", "x"]), ["u"])
        self.assertEqual(unbalanced_pieces(LADDER, FULL, ["y"]), [("u", "v")])
        self.assertEqual(unbalanced_pieces(LADDER, EMPTY, []), [])
        self.assertEqual(reached_knots(LADDER, EMPTY, []), [])

    def test_the_orders(self):
        """Pieces by their first knots in the ladder, and knots as strings."""
        bag = Bag(PIECES_TABLE, [("j", "a", ()), ("k", "a", ()), ("l", "b", ())])
        self.assertEqual(unbalanced_pieces(PIECES, bag, ["x"]), [("v", "w"), ("t", "u")])
        self.assertEqual(unbalanced_pieces(PIECES, bag, ["x", "x", "y", "y"]), [("t", "u")])
        self.assertEqual(reached_knots(PIECES, bag, ["y", "x"]), ["t", "u", "v", "w"])
        self.assertEqual(reached_knots(PIECES, bag, ["y"]), ["t", "u"])


class Built(unittest.TestCase):
    def check(self, ladder, bag, roots, groves):
        self.assertIs(can_build(ladder, bag, roots), bool(groves))
        paper = unbuilt_paper(ladder, bag, roots)
        if groves:
            self.assertIsNone(paper)
            self.assertIn(built(ladder, bag, roots), groves)
        else:
            self.assertIs(judge_unbuilt(ladder, bag, roots, paper), True)
            raises(self, Unbuilt, {"word": paper[0], "value": paper[1]}, built, ladder, bag, roots)

    def test_all(self):
        met = [0, 0]
        chance = random.Random(101)
        for joints in range(1, 6):
            for ladder, bag, roots in some_cases(joints + 110, 80, joints):
                groves = all_groves(bag, roots)
                met[bool(groves)] += 1
                self.check(ladder, bag, roots, groves)
                self.check(further_ladder(chance, ladder), bag, list(roots), groves)
        self.assertGreater(min(met), 100)

    def test_examples(self):
        self.assertEqual(built(LADDER, FULL, ("y", "y")), Grove(FULL, ("y", "y"), built(LADDER, FULL, ["y", "y"]).bushes()))
        self.assertIn(Grove(FULL, ("y", "y"), [("s", ("t",)), ("r",)]), all_groves(FULL, ("y", "y")))
        self.check(LADDER, FULL, ("y", "y"), all_groves(FULL, ("y", "y")))
        self.assertIs(can_build(LADDER, OWN, ["y"]), False)
        raises(self, Unbuilt, {"word": "closed", "value": ("v",)}, built, LADDER, OWN, ["y"])
        self.assertIs(can_build(LADDER, LOW, ["x", "x"]), False)
        raises(self, Unbuilt, {"word": "flow", "value": 0}, built, LADDER, LOW, ["x", "x"])
        raises(self, Unbuilt, {"word": "piece", "value": ("u", "v")}, built, LADDER, LOW, ["x"])

    def test_nothing(self):
        self.assertIs(can_build(LADDER, EMPTY, []), True)
        self.assertEqual(built(LADDER, EMPTY, []), Grove(EMPTY, [], []))
        self.assertIs(can_build(LADDER, EMPTY, ["x"]), False)
        self.assertIs(can_build(Ladder([], [], [], []), Bag(table_of(Ladder([], [], [], []), [], []), []), []), True)
        joints = Bag(TABLE, [("s", "a", ("x",))])
        self.assertIs(can_build(LADDER, joints, []), False)
        raises(self, Unbuilt, {"word": "closed", "value": ()}, built, LADDER, joints, [])

    def test_joints_at_their_own_branches(self):
        """Three joints that could only stand round a loop beside a root, until one of another knot is among them."""
        joints = [("s", "a", ("x",)), ("t", "a", ("x",)), ("r", "b", ())]
        bag = Bag(TABLE, joints)
        self.assertEqual(all_groves(bag, ["y"]), [])
        self.check(LADDER, bag, ["y"], [])
        bag = Bag(TABLE, [("s", "a", ("x",)), ("t", "a", ("y",)), ("r", "b", ())])
        self.check(LADDER, bag, ["y"], all_groves(bag, ["y"]))
        self.assertIs(can_build(LADDER, bag, ["y"]), True)

    def test_thirty_joints(self):
        start = time.monotonic()
        chance = random.Random(102)
        ladder, grove = great_case()
        bag, roots = grove.bag(), grove.roots()
        self.assertIs(can_build(ladder, bag, roots), True)
        found = built(ladder, bag, roots)
        self.assertEqual(sorted(found.walk()), sorted(bag.names()))
        met = 0
        for _ in range(400):
            ladder = some_ladder(chance, 6, 8, 8)
            bag, roots = some_bag(chance, ladder, 30, 8)
            if can_build(ladder, bag, roots):
                met += 1
                self.assertEqual(built(ladder, bag, roots).bag(), bag)
            else:
                self.assertIs(judge_unbuilt(ladder, bag, roots, unbuilt_paper(ladder, bag, roots)), True)
        self.assertGreater(met, 3)
        self.assertLess(time.monotonic() - start, 60)


class Rules(unittest.TestCase):
    def test_rules(self):
        for function in (unbalanced_pieces, reached_knots, can_build, built):
            keeps_the_rules(self, function, LADDER, FULL, ["y", "y"])
            keeps_the_rules(self, function, LADDER, EMPTY, [])
        keeps_the_rules(self, unbalanced_pieces, LADDER, FULL, ["y"])
