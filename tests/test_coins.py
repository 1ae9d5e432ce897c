import random
import time
import unittest

from kindredbush.bags import Bag, places_of
from kindredbush.bars import bar_of
from kindredbush.building import built
from kindredbush.coins import change, coins, due, judge_way, touched, way
from kindredbush.deeds import all_deeds, done
from kindredbush.errors import BadDeed, BadTable, UnlikeGroves
from kindredbush.groves import Grove
from kindredbush.peelings import ladder_of
from kindredbush.plainwalks import fewest_by_walks
from kindredbush.rings import right_places
from kindredbush.scripts import price, steps, walked
from kindredbush.tables import Table
from tests.support import (DOMINO_TABLE, GROVE, ODD_VALUES, OTHER_GROVE, RING_TABLE, cases, keeps_the_rules, raises,
                           some_table)
from tests.test_deeds import EMPTY, STUCK, twin
from tests.test_flows import F, G
from tests.test_groves import all_groves
from tests.test_pieces import all_tries, plain_deed
from tests.test_plainwalks import DOMINO_ONE, DOMINO_OTHER, RING_BAG, RING_ONE, RING_OTHER, RING_ROOTS
from tests.test_rings import UNLIKE, pairs, plain_rings

SWAP = ("stretch", ("root", 0), ("x", 0), ("x", 0), ("y", 0))


def good(grove):
    return bar_of(grove.bag().table()) is None


class Due(unittest.TestCase):
    def test_word_by_word(self):
        for f, g in pairs(72):
            wanted = len(places_of(f.bag(), f.roots())) - len(plain_rings(f, g))
            self.assertEqual(due(f, g), wanted)
            self.assertEqual(due(g, f), wanted)
            self.assertEqual(wanted == 0, f == g)
            if good(f):
                self.assertEqual(coins(f, g), wanted)

    def test_examples(self):
        self.assertEqual((due(F, G), coins(F, G), coins(F, F)), (2, 2, 0))
        self.assertEqual((due(RING_ONE, RING_OTHER), due(DOMINO_ONE, DOMINO_OTHER)), (2, 3))
        self.assertEqual((coins(GROVE, OTHER_GROVE), coins(EMPTY, EMPTY)), (2, 0))

    def test_three_groves(self):
        chance = random.Random(73)
        for f, g in pairs(74):
            h = chance.choice(all_groves(f.bag(), f.roots()))
            self.assertLessEqual(due(f, h), due(f, g) + due(g, h))

    def test_the_fewest_coins(self):
        met = 0
        for f, g in pairs(76):
            if good(f) and due(f, g) <= 5:
                met += 1
                self.assertEqual(fewest_by_walks(f, g, 5), coins(f, g))
        self.assertGreater(met, 60)


class Ways(unittest.TestCase):
    def check(self, f, g):
        script = way(f, g)
        self.assertIs(type(script), list)
        groves = steps(f, script)
        self.assertEqual(groves[-1], g)
        self.assertEqual(price(script), due(f, g))
        self.assertIsNone(judge_way(f, g, script))
        for grove, after in zip(groves, groves[1:]):
            self.assertLessEqual(set(right_places(grove, g)), set(right_places(after, g)))

    def test_pairs(self):
        for f, g in pairs(78):
            if good(f):
                self.check(f, g)
                self.check(f, f)
                self.assertEqual(way(f, f), [])

    def test_examples(self):
        self.assertEqual(way(F, G), [SWAP])
        self.assertEqual(way(EMPTY, EMPTY), [])
        self.assertEqual(way(STUCK, STUCK), [])

    def test_all_pairs_over_some_tables(self):
        chance = random.Random(79)
        met = 0
        while met < 12:
            table = some_table(chance, ["a", "b", "c"], ["x", "y", "z"], 0.6)
            if bar_of(table) is not None:
                continue
            bag = Bag(table, [(f"j{n}", chance.choice("abc"), tuple(chance.choice("xyz") for _ in range(many)))
                              for n, many in enumerate([2, 1, 1, 0, 0])])
            groves = all_groves(bag, [chance.choice("xyz")])
            if len(groves) > 1:
                met += 1
                for f in groves[:12]:
                    for g in groves[:12]:
                        self.check(f, g)

    def test_sixteen_joints(self):
        """Over tables of eight and eight colours."""
        chance = random.Random(80)
        met = 0
        start = time.monotonic()
        while met < 6:
            table = nested_table(chance)
            bag, roots = some_joints(chance, table, 16)
            f = grown(chance, bag, roots)
            g = grown(chance, bag, roots)
            if f is not None and g is not None and due(f, g) > 6:
                met += 1
                self.check(f, g)
                self.check(g, f)
        self.assertLess(time.monotonic() - start, 60)


def nested_table(chance):
    """A good table of eight and eight colours, with many fits."""
    stems, places = [f"s{n}" for n in range(8)], [f"p{n}" for n in range(8)]
    while True:
        table = some_table(chance, stems, places, 0.1)
        fits = {(stem, place) for stem in stems for place in places
                if int(place[1:]) >= 6 or int(stem[1:]) < 4 and int(place[1:]) > int(stem[1:])} | set(table.fits())
        table = Table(stems, places, list(fits))
        if bar_of(table) is None:
            return table


def some_joints(chance, table, many):
    """A bag and a root with a grove."""
    while True:
        counts = [0] * many
        for _ in range(many - 1):
            counts[chance.randrange(many)] += 1
        bag = Bag(table, [(f"j{n}", chance.choice(table.stems()), tuple(chance.choice(table.places()) for _ in range(k)))
                          for n, k in enumerate(counts)])
        root = chance.choice(table.places())
        if grown(chance, bag, [root]) is not None:
            return bag, [root]


def grown(chance, bag, roots):
    """A grove of a bag, of which the joints are taken in another sequence; or None."""
    joints = bag.joints()
    chance.shuffle(joints)
    try:
        grove = built(ladder_of(bag.table()), Bag(bag.table(), joints), roots)
    except ValueError:
        return None
    return Grove(bag, roots, grove.bushes())


class BadTables(unittest.TestCase):
    def test_bars(self):
        for f, g, table in [(RING_ONE, RING_OTHER, RING_TABLE), (DOMINO_ONE, DOMINO_OTHER, DOMINO_TABLE)]:
            word, value = bar_of(table)
            for one, other in [(f, g), (g, f), (f, f), (g, g)]:
                for function in (coins, way):
                    raises(self, BadTable, {"word": word, "value": value}, function, one, other)
                self.assertEqual(due(one, other), len(one.rows()) - len(plain_rings(one, other)))

    def test_colours_that_no_joint_has(self):
        word, value = bar_of(RING_TABLE)
        for joints, roots, bushes in [([], [], []), ([("j", "a", ())], ["x"], [("j",)])]:
            grove = Grove(Bag(RING_TABLE, joints), roots, bushes)
            for function in (coins, way):
                raises(self, BadTable, {"word": word, "value": value}, function, grove, grove)
            self.assertEqual(due(grove, grove), 0)

    def test_behind_unlike_groves(self):
        other = Grove(RING_BAG, ("x", "y", "z"), [("j1",), ("j2",), ("j3",)])
        for function in (coins, way, due):
            raises(self, UnlikeGroves, {}, function, RING_ONE, other)
            raises(self, UnlikeGroves, {}, function, RING_ONE, GROVE)

    def test_domino(self):
        """S7.6: due is 3, but no deed has a change of as much as it costs; a way pays 5."""
        for deed in all_deeds(DOMINO_ONE):
            self.assertLess(change(DOMINO_ONE, DOMINO_OTHER, deed), price([deed]))
        root, c1, b1, one, other = ("root", 0), ("c1", 0), ("b1", 0), ("a1", 0), ("a1", 1)
        script = [("stretch", root, c1, c1, one), ("hang", c1, other), ("stretch", root, c1, c1, b1)]
        self.assertEqual(walked(DOMINO_ONE, script), DOMINO_OTHER)
        self.assertEqual(judge_way(DOMINO_ONE, DOMINO_OTHER, script), ("coins", 2))

    def test_ring(self):
        self.assertEqual(all_deeds(RING_ONE), [])
        self.assertEqual(judge_way(RING_ONE, RING_OTHER, []), ("end",))
        self.assertIsNone(judge_way(RING_ONE, Grove(RING_BAG, RING_ROOTS, RING_ONE.bushes()), []))


class Judged(unittest.TestCase):
    def test_form(self):
        for value in cases(self, [one for one in ODD_VALUES if not isinstance(one, (list, tuple))] + ["hang", {0: SWAP}]):
            self.assertEqual(judge_way(F, G, value), ("form",))
            self.assertEqual(judge_way(F, F, value), ("form",))
            self.assertEqual(judge_way(EMPTY, EMPTY, value), ("form",))

    def test_deeds(self):
        for value in cases(self, ODD_VALUES + [("hang", ("root", 0), ("x", 0)), list(SWAP), "hang"]):
            self.assertEqual(judge_way(F, G, [value]), ("deed", 0))
            self.assertEqual(judge_way(F, G, (SWAP, value, value)), ("deed", 1))
            self.assertEqual(judge_way(EMPTY, EMPTY, [value]), ("deed", 0))
        self.assertEqual(judge_way(F, G, SWAP), ("deed", 0))
        self.assertEqual(judge_way(F, G, [SWAP, SWAP]), ("deed", 1))

    def test_end(self):
        self.assertEqual(judge_way(F, G, []), ("end",))
        self.assertEqual(judge_way(F, F, [SWAP]), ("end",))

    def test_coins(self):
        back = ("stretch", ("root", 0), ("y", 0), ("y", 0), ("x", 0))
        self.assertIsNone(judge_way(F, G, [SWAP]))
        self.assertIsNone(judge_way(F, G, (SWAP,)))
        self.assertIsNone(judge_way(F, G, [twin(SWAP)]))
        self.assertEqual(judge_way(F, F, [SWAP, back]), ("coins", 4))
        self.assertEqual(judge_way(F, G, [SWAP, back, SWAP]), ("coins", 4))
        hang = ("hang", ("p", 0), ("p", 1))
        self.assertEqual(judge_way(GROVE, GROVE, [hang, hang]), ("coins", 2))
        self.assertIsNone(judge_way(GROVE, GROVE, []))
        self.assertIsNone(judge_way(EMPTY, EMPTY, ()))

    def test_what_is_paid_above_due(self):
        """The sum of coins less changes, at their turns."""
        chance = random.Random(81)
        for f, _ in pairs(82):
            script, here = [], f
            for _ in range(5):
                deeds = all_deeds(here)
                if deeds:
                    script.append(chance.choice(deeds))
                    here = done(here, script[-1])
            groves = steps(f, script)
            above = sum(price([deed]) - change(grove, here, deed) for grove, deed in zip(groves, script))
            self.assertEqual(price(script) - due(f, here), above)
            self.assertEqual(judge_way(f, here, script), ("coins", above) if above else None)


class Changes(unittest.TestCase):
    def test_word_by_word(self):
        met = set()
        for f, g in pairs(83):
            tries = [deed for deed in all_tries(f) if plain_deed(f, deed)] if len(f.rows()) < 6 else all_deeds(f)
            for deed in tries:
                after = done(f, deed)
                found = change(f, g, deed)
                self.assertEqual(found, len(plain_rings(after, g)) - len(plain_rings(f, g)))
                self.assertEqual(touched(f, deed), [place for place, name in f.rows() if after.joint(place) != name])
                met.add((price([deed]), found))
        self.assertEqual(met, {(1, 1), (1, -1), (2, 2), (2, 0), (2, -2)})

    def test_examples(self):
        self.assertEqual(touched(F, SWAP), [("root", 0), ("x", 0), ("y", 0)])
        self.assertEqual((change(F, G, SWAP), change(F, F, SWAP)), (2, -2))
        self.assertEqual(touched(GROVE, ("hang", ("p", 1), ("p", 0))), [("p", 0), ("p", 1)])

    def test_no_deed(self):
        for value in cases(self, ODD_VALUES + [("hang", ("p", 1), ("q", 0)), ["hang", ("p", 0), ("p", 1)]]):
            raises(self, BadDeed, {"number": 0}, touched, GROVE, value)
            raises(self, BadDeed, {"number": 0}, change, GROVE, OTHER_GROVE, value)
            raises(self, BadDeed, {"number": 0}, touched, EMPTY, value)
            raises(self, UnlikeGroves, {}, change, GROVE, STUCK, value)


class Errors(unittest.TestCase):
    def test_unlike_groves(self):
        for other in UNLIKE:
            for function in (due, coins, way):
                raises(self, UnlikeGroves, {}, function, GROVE, other)
                raises(self, UnlikeGroves, {}, function, other, GROVE)
            for value in (None, [], [None]):
                raises(self, UnlikeGroves, {}, judge_way, GROVE, other, value)
            raises(self, UnlikeGroves, {}, change, GROVE, other, ("hang", ("p", 0), ("p", 1)))


class Rules(unittest.TestCase):
    def test_rules(self):
        for call in [(due, F, G), (coins, F, G), (way, F, G), (way, GROVE, OTHER_GROVE), (way, F, F),
                     (judge_way, F, G, [SWAP]), (judge_way, F, G, [[SWAP]]), (touched, F, SWAP), (change, F, G, SWAP)]:
            keeps_the_rules(self, *call)

    def test_sixty_deeds(self):
        hang = ("hang", ("p", 0), ("p", 1))
        self.assertEqual(judge_way(GROVE, GROVE, [hang] * 60), ("coins", 60))
