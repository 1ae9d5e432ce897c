import random
import unittest

from kindredbush.assemblies import Assembly, assembly_of
from kindredbush.bags import Bag, colour_of, places_of
from kindredbush.flows import crossings, flows
from kindredbush.groves import Grove
from kindredbush.ladders import Ladder, table_of
from tests.support import keeps_the_rules, some_bag, some_ladder
from tests.test_assemblies import all_assemblies
from tests.test_groves import all_groves

# The example of S5.8.
LADDER = Ladder(["u", "v"], [("u", "v")], [("a", "u"), ("b", "v")], [("p", "u"), ("q", "v")])
TABLE = table_of(LADDER, ["a", "b"], ["p", "q"])
BAG = Bag(TABLE, [("x", "a", ("q",)), ("y", "b", ("p",)), ("z", "a", ())])
F = Grove(BAG, ["q"], [("x", ("y", ("z",)))])
G = Grove(BAG, ["q"], [("y", ("x", ("z",)))])
EMPTY_BAG = Bag(TABLE, [])


def plain_flows(ladder, bag, roots):
    """S5.1 word by word."""
    found = []
    for number, (one, _) in enumerate(ladder.arrows()):
        arrows = ladder.arrows()
        del arrows[number]
        side = [piece for piece in Ladder(ladder.knots(), arrows, [], []).pieces() if one in piece][0]
        joints = [name for name in bag.names() if ladder.stem_home(bag.stem(name)) in side]
        places = [place for place in places_of(bag, roots) if ladder.place_home(colour_of(bag, roots, place)) in side]
        found.append(len(joints) - len(places))
    return found


def plain_crossings(ladder, assembly):
    bag, roots = assembly.bag(), assembly.roots()
    ways = [ladder.way(ladder.stem_home(bag.stem(name)), ladder.place_home(colour_of(bag, roots, place)))
            for place, name in assembly.rows()]
    return [sum(number in way for way in ways) for number in range(len(ladder.arrows()))]


def some_cases(seed, many, joints):
    """Ladders, bags and roots, with and without assemblies."""
    chance = random.Random(seed)
    for _ in range(many):
        ladder = some_ladder(chance, chance.randint(1, 6), chance.randint(1, 4), chance.randint(1, 4))
        bag, roots = some_bag(chance, ladder, joints, chance.randint(1, 3))
        yield ladder, bag, roots


class Flows(unittest.TestCase):
    def test_word_by_word(self):
        for joints in range(3, 12):
            for ladder, bag, roots in some_cases(joints, 25, joints):
                self.assertEqual(flows(ladder, bag, roots), plain_flows(ladder, bag, roots))
                self.assertEqual(flows(ladder, bag, list(roots)), plain_flows(ladder, bag, roots))

    def test_examples(self):
        self.assertEqual(flows(LADDER, BAG, ["q"]), [1])
        self.assertEqual(flows(LADDER, BAG, ("p", "p")), [-1])
        self.assertEqual(flows(LADDER, BAG, ("p", "p", "p")), [-2])
        self.assertEqual(flows(LADDER, BAG, ()), [1])
        self.assertEqual(flows(LADDER, EMPTY_BAG, ()), [0])
        self.assertEqual(flows(LADDER, EMPTY_BAG, ("p", "q")), [-1])

    def test_directions(self):
        """The side is that of the knot at which the arrow begins, also where arrows come together."""
        ladder = Ladder(["m", "l", "r", "x", "y"], [("l", "m"), ("r", "m"), ("x", "y")],
                        [("sl", "l"), ("sr", "r"), ("sx", "x")], [("pm", "m"), ("pl", "l"), ("py", "y")])
        bag = Bag(table_of(ladder, ["sl", "sr", "sx"], ["pm", "pl", "py"]),
                  [("a", "sl", ()), ("b", "sl", ()), ("c", "sr", ("py",)), ("d", "sx", ())])
        self.assertEqual(flows(ladder, bag, ("pm", "pm", "pl")), [1, 1, 1])
        self.assertEqual(flows(ladder, bag, ("pm", "pm", "pm")), [2, 1, 1])
        self.assertEqual(flows(ladder, bag, ("pm",)), [2, 1, 1])
        turned = Ladder(["m", "l", "r", "x", "y"], [("m", "l"), ("m", "r"), ("y", "x")], [("sm", "m")], [("pl", "l")])
        other = Bag(table_of(turned, ["sm"], ["pl"]), [("a", "sm", ()), ("b", "sm", ())])
        self.assertEqual(flows(turned, other, ("pl", "pl")), [2, 0, 0])

    def test_no_arrows(self):
        ladder = Ladder(["u"], [], [("a", "u")], [("p", "u")])
        bag = Bag(table_of(ladder, ["a"], ["p"]), [("x", "a", ())])
        self.assertEqual(flows(ladder, bag, ["p"]), [])
        self.assertEqual(crossings(ladder, assembly_of(Grove(bag, ["p"], [("x",)]))), [])

    def test_further_colours_and_knots(self):
        ladder = Ladder(["far", "v", "u", "end"], [("v", "end"), ("u", "v")], [("c", "far"), ("a", "u"), ("b", "v")],
                        [("q", "v"), ("p", "u"), ("o", "end")])
        self.assertEqual(flows(ladder, BAG, ["q"]), [0, 1])
        self.assertEqual(crossings(ladder, assembly_of(F)), [0, 1])


class Crossings(unittest.TestCase):
    def test_as_flows(self):
        """In every assembly as many joints stand through an arrow as its flow tells, and if one exists none is below 0."""
        met = 0
        for joints in range(2, 6):
            for ladder, bag, roots in some_cases(joints + 20, 60, joints):
                for assembly in list(all_assemblies(bag, roots))[:20]:
                    met += 1
                    self.assertEqual(crossings(ladder, assembly), plain_crossings(ladder, assembly))
                    self.assertEqual(crossings(ladder, assembly), flows(ladder, bag, roots))
        self.assertGreater(met, 100)

    def test_examples(self):
        for grove in (F, G):
            self.assertEqual(crossings(LADDER, assembly_of(grove)), [1])
        self.assertEqual(crossings(LADDER, Assembly(EMPTY_BAG, [], [])), [0])

    def test_a_loop(self):
        bag = Bag(TABLE, [("x", "a", ("q",)), ("y", "b", ("p",)), ("z", "b", ())])
        assembly = Assembly(bag, ["q"], [(("root", 0), "z"), (("x", 0), "y"), (("y", 0), "x")])
        self.assertEqual(crossings(LADDER, assembly), [0])
        self.assertEqual(flows(LADDER, bag, ["q"]), [0])


class Rules(unittest.TestCase):
    def test_rules(self):
        keeps_the_rules(self, flows, LADDER, BAG, ["q"])
        keeps_the_rules(self, flows, LADDER, EMPTY_BAG, [])
        keeps_the_rules(self, crossings, LADDER, assembly_of(F))

    def test_the_groves_of_the_example(self):
        self.assertEqual(all_groves(BAG, ["q"]), [F, G])

    def test_great_ladders(self):
        chance = random.Random(30)
        for _ in range(10):
            ladder = some_ladder(chance, 32, 16, 16)
            bag, roots = some_bag(chance, ladder, 30, 8)
            self.assertEqual(flows(ladder, bag, roots), plain_flows(ladder, bag, roots))
