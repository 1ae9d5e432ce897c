import random
import unittest

from kindredbush.bags import Bag, places_of
from kindredbush.errors import UnlikeGroves
from kindredbush.groves import Grove
from kindredbush.rings import difference, right_places, rings
from kindredbush.tables import Table
from tests.support import BAG, BUSH_TABLE, GROVE, OTHER_GROVE, keeps_the_rules, raises
from tests.test_deeds import EMPTY, STUCK
from tests.test_flows import F, G
from tests.test_groves import all_groves
from tests.test_pieces import FREE, some_groves
from tests.test_plainwalks import DOMINO_ONE, DOMINO_OTHER, RING_ONE, RING_OTHER

UNLIKE = [STUCK, EMPTY, Grove(BAG, ["y"], GROVE.bushes()), Grove(Bag(BUSH_TABLE, BAG.joints()[::-1]), ["x"],
                                                                  GROVE.bushes()),
          Grove(Bag(Table(["b", "a"], ["x", "y"], BUSH_TABLE.fits()), BAG.joints()), ["x"], GROVE.bushes())]


def plain_difference(f, g):
    """S7.1 word by word."""
    where = {name: place for place, name in g.rows()}
    return [(place, where[dict(f.rows())[place]]) for place in places_of(f.bag(), f.roots())]


def plain_rings(f, g):
    leads = dict(plain_difference(f, g))
    found = []
    for place in places_of(f.bag(), f.roots()):
        if all(place not in ring for ring in found):
            ring = [place]
            while leads[ring[-1]] != place:
                ring.append(leads[ring[-1]])
            found.append(tuple(ring))
    return found


def pairs(seed):
    """Pairs of groves of one bag and roots."""
    chance = random.Random(seed)
    for start in [GROVE, STUCK, EMPTY, F, RING_ONE, DOMINO_ONE] + some_groves(seed, 12, 5) + some_groves(seed + 1, 4, 6):
        groves = all_groves(start.bag(), start.roots())
        for _ in range(6):
            yield chance.choice(groves), chance.choice(groves)


class Rings(unittest.TestCase):
    def test_word_by_word(self):
        for f, g in pairs(70):
            self.assertEqual(difference(f, g), plain_difference(f, g))
            self.assertEqual(rings(f, g), plain_rings(f, g))
            self.assertEqual(right_places(f, g), [place for place, name in f.rows() if g.joint(place) == name])
            self.assertEqual(sorted(sorted(ring) for ring in rings(g, f)), sorted(sorted(ring) for ring in rings(f, g)))
            self.assertEqual(rings(g, f), [ring[:1] + ring[:0:-1] for ring in rings(f, g)])

    def test_example(self):
        """S7.8: the root is led to the branch of y, this to the branch of x, and this to the root."""
        root, x, y = ("root", 0), ("x", 0), ("y", 0)
        self.assertEqual(difference(F, G), [(root, y), (x, root), (y, x)])
        self.assertEqual(rings(F, G), [(root, y, x)])
        self.assertEqual(rings(G, F), [(root, x, y)])
        self.assertEqual(right_places(F, G), [])
        self.assertEqual([F.is_apart(one, other) for one in (root, x, y) for other in (root, x, y)], [False] * 9)

    def test_domino(self):
        """S7.6."""
        self.assertEqual(rings(DOMINO_ONE, DOMINO_OTHER),
                         [(("root", 0), ("a1", 0), ("a1", 1)), (("c1", 0), ("b1", 0))])

    def test_right_places(self):
        self.assertEqual(rings(GROVE, GROVE), [(place,) for place, name in GROVE.rows()])
        self.assertEqual(difference(GROVE, GROVE), [(place, place) for place, name in GROVE.rows()])
        self.assertEqual(right_places(GROVE, GROVE), [("root", 0), ("p", 0), ("p", 1), ("q", 0)])
        self.assertEqual(right_places(GROVE, OTHER_GROVE), [("p", 1)])
        self.assertEqual(rings(GROVE, OTHER_GROVE), [(("root", 0), ("q", 0), ("p", 0)), (("p", 1),)])
        self.assertEqual(rings(RING_ONE, RING_OTHER), [(("root", 0), ("root", 2), ("root", 1))])

    def test_nothing(self):
        self.assertEqual((difference(EMPTY, EMPTY), rings(EMPTY, EMPTY), right_places(EMPTY, EMPTY)), ([], [], []))

    def test_unlike_groves(self):
        for other in UNLIKE:
            for function in (difference, rings, right_places):
                raises(self, UnlikeGroves, {}, function, GROVE, other)
                raises(self, UnlikeGroves, {}, function, other, GROVE)


class Rules(unittest.TestCase):
    def test_rules(self):
        for function in (difference, rings, right_places):
            keeps_the_rules(self, function, GROVE, OTHER_GROVE)
            keeps_the_rules(self, function, EMPTY, EMPTY)
            keeps_the_rules(self, function, RING_ONE, RING_OTHER)

    def test_thirty_joints(self):
        names = [f"j{number}" for number in range(30)]
        bag = Bag(FREE, [(name, "k", ("l",) * (number < 22)) for number, name in enumerate(names)])
        chance = random.Random(71)
        groves = []
        for _ in range(2):
            chance.shuffle(names)
            tops = [(name,) for name in names if int(name[1:]) >= 22]
            for name in names:
                if int(name[1:]) < 22:
                    at = chance.randrange(8)
                    tops[at] = (name, tops[at])
            groves.append(Grove(bag, ["l"] * 8, tops))
        self.assertEqual(rings(*groves), plain_rings(*groves))
        self.assertEqual(difference(*groves), plain_difference(*groves))
