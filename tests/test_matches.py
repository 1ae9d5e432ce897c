import itertools
import random
import time
import unittest

from kindredbush.bags import Bag
from kindredbush.errors import UnlikeGroves
from kindredbush.flats import first_flat, flat_places, is_flat
from kindredbush.groves import Grove
from kindredbush.ladders import Ladder, table_of
from kindredbush.matches import flat_rings, flat_way, judge_matched, matched
from kindredbush.scripts import price
from kindredbush.seen import done_flat, is_flat_deed, seen_grove
from tests.support import GROVE, ODD_VALUES, cases, keeps_the_rules, raises
from tests.test_coins import grown
from tests.test_flats import A, FLAT_F, FLAT_G, all_flats, good_cases, great_case, plain_places, plain_rows
from tests.test_flows import BAG, EMPTY_BAG, F, G, LADDER
from tests.test_rings import plain_rings
from tests.test_seen import WIDE, WIDE_BAG

ROOTS = ["q"]
EMPTY = Grove(EMPTY_BAG, [], [])


def plain_flat_rings(ladder, bag, roots, one, other):
    """S5.5 word by word."""
    holders = dict(plain_rows(one))
    spots = {holder: place for place, holder in plain_rows(other)}
    found = []
    for place in plain_places(ladder, bag, roots):
        if all(place not in ring for ring in found):
            ring = [place]
            while spots[holders[ring[-1]]] != place:
                ring.append(spots[holders[ring[-1]]])
            found.append(tuple(ring))
    return found


class FlatRings(unittest.TestCase):
    def test_word_by_word(self):
        for ladder, bag, roots, _ in good_cases(90, 150, 4, 7):
            flats = all_flats(ladder, bag, roots)
            for one, other in itertools.product(flats[:6], flats[-6:]):
                rings = flat_rings(ladder, bag, roots, one, other)
                self.assertEqual(rings, plain_flat_rings(ladder, bag, roots, one, other))
                self.assertEqual(flat_rings(ladder, bag, list(roots), one, one),
                                 [(place,) for place in flat_places(ladder, bag, roots)])

    def test_example(self):
        self.assertEqual(flat_rings(LADDER, BAG, ROOTS, FLAT_F, FLAT_G),
                         [(("root", 0), ("x", 0)), (("y", 0), (A, 0))])
        self.assertEqual(flat_rings(LADDER, EMPTY_BAG, [], (), ()), [])


class Matched(unittest.TestCase):
    def test_word_by_word(self):
        """All pairs of flat groves; those that are seen as the same have no more rings, and some pair has as many."""
        met = 0
        for ladder, bag, roots, groves in good_cases(91, 200, 4, 7):
            flats = [(flat, seen_grove(ladder, bag, roots, flat)) for flat in all_flats(ladder, bag, roots)]
            for f, g in [(groves[0], groves[-1]), (groves[0], groves[0]), (groves[-1], groves[0])]:
                most = len(plain_rings(f, g)) + len(flat_places(ladder, bag, roots)) - len(f.rows())
                found = matched(ladder, f, g)
                self.assertIs(judge_matched(ladder, f, g, found), True)
                for (one, seen), (other, other_seen) in itertools.product(flats[:8], flats[-8:]):
                    good = seen == f and other_seen == g
                    if good:
                        many = len(plain_flat_rings(ladder, bag, roots, one, other))
                        self.assertLessEqual(many, most)
                        good = many == most
                        met += many < most
                    self.assertIs(judge_matched(ladder, f, g, (one, other)), good)
                self.assertEqual(len(plain_flat_rings(ladder, bag, roots, *found)), most)
        self.assertGreater(met, 20)

    def test_each_flat_grove_has_a_match(self):
        for ladder, bag, roots, groves in good_cases(92, 80, 4, 7):
            flats = [(flat, seen_grove(ladder, bag, roots, flat)) for flat in all_flats(ladder, bag, roots)]
            if len(flats) > 60:
                continue
            for f, g in itertools.product(groves[:2], groves[-2:]):
                for one in [flat for flat, seen in flats if seen == f]:
                    self.assertTrue(any(judge_matched(ladder, f, g, (one, other))
                                        for other, seen in flats if seen == g))

    def test_examples(self):
        self.assertEqual(matched(LADDER, F, G), (FLAT_F, FLAT_G))
        self.assertEqual(matched(LADDER, G, F), (FLAT_G, FLAT_F))
        self.assertEqual(matched(LADDER, F, F), (FLAT_F, FLAT_F))
        self.assertEqual(matched(LADDER, EMPTY, EMPTY), ((), ()))
        self.assertIs(judge_matched(LADDER, EMPTY, EMPTY, ((), ())), True)
        self.assertIs(judge_matched(LADDER, F, G, (FLAT_F, FLAT_G)), True)

    def test_two_adapters_of_one_arrow(self):
        """The same grove, seen from flat groves in which two adapters are exchanged, is not matched with itself."""
        flat = first_flat(LADDER, WIDE)
        other = (((0, 1), ("j", ("k",))), ("l",), ((0, 0), ("i",)))
        self.assertIs(is_flat(LADDER, WIDE_BAG, WIDE.roots(), other), True)
        for one, two, holds in [(flat, flat, True), (other, other, True), (flat, other, False), (other, flat, False)]:
            self.assertIs(judge_matched(LADDER, WIDE, WIDE, (one, two)), holds)

    def test_anything(self):
        odd = [[FLAT_F, FLAT_G], (FLAT_F,), (FLAT_F, FLAT_G, FLAT_G), (FLAT_G, FLAT_F), (FLAT_F, FLAT_F), FLAT_F,
               (FLAT_F, list(FLAT_G)), (F, G), ((), ()), (FLAT_F, G), (FLAT_F[0], FLAT_G[0]), {"x": FLAT_F}, "ab"]
        for value in cases(self, ODD_VALUES + odd):
            self.assertIs(judge_matched(LADDER, F, G, value), False)
            self.assertIs(judge_matched(LADDER, F, G, (FLAT_F, value)), False)
            if value != FLAT_F:
                self.assertIs(judge_matched(LADDER, F, G, (value, FLAT_G)), False)
            if value != ((), ()):
                self.assertIs(judge_matched(LADDER, EMPTY, EMPTY, value), False)

    def test_unlike_groves(self):
        others = [EMPTY, GROVE, Grove(Bag(BAG.table(), BAG.joints()[::-1]), ROOTS, F.bushes()), WIDE]
        for other in others:
            for one, two in [(F, other), (other, F)]:
                raises(self, UnlikeGroves, {}, matched, LADDER, one, two)
                for value in (None, (FLAT_F, FLAT_G), [[]]):
                    raises(self, UnlikeGroves, {}, judge_matched, LADDER, one, two, value)

    def test_further_knots_and_colours(self):
        ladder = Ladder(["o", "v", "u"], [("v", "o"), ("u", "v")], [("c", "o"), ("a", "u"), ("b", "v")],
                        [("q", "v"), ("p", "u"), ("o", "o")])
        self.assertEqual(table_of(ladder, ["a", "b"], ["p", "q"]), BAG.table())
        self.assertIs(judge_matched(ladder, F, G, matched(ladder, F, G)), True)
        self.assertIs(judge_matched(ladder, F, G, (FLAT_F, FLAT_G)), False)


class Ways(unittest.TestCase):
    def check(self, ladder, bag, roots, one, other):
        script = flat_way(ladder, bag, roots, one, other)
        self.assertIs(type(script), list)
        flat = one
        for deed in script:
            self.assertIs(is_flat_deed(ladder, bag, roots, flat, deed), True)
            flat = done_flat(ladder, bag, roots, flat, deed)
        self.assertEqual(flat, other)
        self.assertEqual(price(script), len(flat_places(ladder, bag, roots))
                         - len(plain_flat_rings(ladder, bag, roots, one, other)))
        return script

    def test_pairs(self):
        met = 0
        for ladder, bag, roots, _ in good_cases(93, 150, 5, 8):
            flats = all_flats(ladder, bag, roots)
            for one, other in itertools.product(flats[:10], flats[-10:]):
                met += self.check(ladder, bag, roots, one, other) != []
        self.assertGreater(met, 500)

    def test_examples(self):
        self.check(LADDER, BAG, ROOTS, FLAT_F, FLAT_G)
        self.assertEqual(flat_way(LADDER, BAG, ROOTS, FLAT_F, FLAT_G),
                         [("stretch", ("root", 0), (A, 0), ("x", 0), ("y", 0))])
        self.assertEqual(flat_way(LADDER, BAG, ROOTS, FLAT_F, FLAT_F), [])
        self.assertEqual(flat_way(LADDER, EMPTY_BAG, [], (), ()), [])

    def test_great_ways(self):
        """Flat groves of up to 160 flat places, and more."""
        chance = random.Random(94)
        start = time.monotonic()
        for number in range(4):
            ladder, grove = great_case()
            bag, roots = grove.bag(), grove.roots()
            if number > 0:
                joints = sorted(bag.joints(), key=lambda joint: int(joint[0][1:]))[:17]
                joints[16] = (*joints[16][:2], ())
                bag = Bag(bag.table(), joints)
                grove = grown(chance, bag, roots)
            other = grown(chance, bag, roots)
            self.assertGreater(len(flat_places(ladder, bag, roots)), 150)
            self.check(ladder, bag, roots, first_flat(ladder, grove), first_flat(ladder, other))
            found = matched(ladder, grove, other)
            self.assertIs(judge_matched(ladder, grove, other, found), True)
            self.check(ladder, bag, roots, *found)
        self.assertLess(time.monotonic() - start, 60)


class Rules(unittest.TestCase):
    def test_rules(self):
        for call in [(flat_rings, LADDER, BAG, ROOTS, FLAT_F, FLAT_G), (matched, LADDER, F, G),
                     (judge_matched, LADDER, F, G, (FLAT_F, FLAT_G)), (judge_matched, LADDER, F, G, [[FLAT_F]]),
                     (flat_way, LADDER, BAG, ROOTS, FLAT_F, FLAT_G), (flat_way, LADDER, BAG, ROOTS, FLAT_F, FLAT_F),
                     (matched, LADDER, WIDE, WIDE)]:
            keeps_the_rules(self, *call)
