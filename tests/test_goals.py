import random
import unittest

from kindredbush.bags import places_of
from kindredbush.coins import due, way
from kindredbush.deeds import all_deeds, done
from kindredbush.errors import UnlikeGroves
from kindredbush.goals import barred_nails, dues_after, wasted
from kindredbush.scripts import price, steps
from tests.support import GROVE, OTHER_GROVE, keeps_the_rules, raises
from tests.test_coins import SWAP, good
from tests.test_deeds import EMPTY
from tests.test_flows import F, G
from tests.test_plainwalks import DOMINO_ONE, DOMINO_OTHER, RING_ONE, RING_OTHER
from tests.test_rings import UNLIKE, pairs, plain_rings

HANG = ("hang", ("p", 0), ("p", 1))


def some_script(chance, grove, many):
    """A script of up to so many deeds."""
    script = []
    for _ in range(many):
        deeds = all_deeds(grove)
        if deeds:
            script.append(chance.choice(deeds))
            grove = done(grove, script[-1])
    return script


class Dues(unittest.TestCase):
    def test_word_by_word(self):
        chance = random.Random(350)
        for f, g in pairs(351):
            script = some_script(chance, f, chance.randint(0, 5))
            groves = steps(f, script)
            dues = [len(f.rows()) - len(plain_rings(grove, g)) for grove in groves]
            self.assertEqual(dues_after(f, g, script), dues)
            self.assertEqual(dues_after(f, g, tuple(script)), dues)
            self.assertEqual(wasted(f, g, script), price(script) - dues[0] + dues[-1])
            rings = [len(plain_rings(grove, g)) for grove in groves]
            more = sum(price([deed]) - (after - before) for deed, before, after in zip(script, rings, rings[1:]))
            self.assertEqual(wasted(f, g, script), more)
            self.assertEqual((more % 2, more >= 0), (0, True))
            nails = chance.sample(places_of(f.bag(), f.roots()), chance.randint(0, len(f.rows())))
            self.assertEqual(barred_nails(f, g, nails), [place for place, name in f.rows()
                                                         if place in nails and dict(g.rows())[place] != name])

    def test_ways(self):
        for f, g in pairs(352):
            if good(f):
                self.assertEqual(wasted(f, g, way(f, g)), 0)

    def test_examples(self):
        self.assertEqual(dues_after(F, G, [SWAP]), [2, 0])
        self.assertEqual(dues_after(F, F, [SWAP]), [0, 2])
        self.assertEqual((wasted(F, G, [SWAP]), wasted(F, F, [SWAP]), wasted(F, G, [])), (0, 4, 0))
        self.assertEqual((dues_after(GROVE, GROVE, [HANG, HANG]), wasted(GROVE, GROVE, [HANG, HANG])), ([0, 1, 0], 2))
        self.assertEqual((dues_after(EMPTY, EMPTY, []), wasted(EMPTY, EMPTY, [])), ([0], 0))
        self.assertEqual((dues_after(RING_ONE, RING_OTHER, []), wasted(RING_ONE, RING_OTHER, [])), ([2], 0))
        self.assertEqual(dues_after(DOMINO_ONE, DOMINO_OTHER, [])[0], due(DOMINO_ONE, DOMINO_OTHER))

    def test_sixty_deeds(self):
        self.assertEqual(dues_after(GROVE, GROVE, [HANG] * 60), [0, 1] * 30 + [0])
        self.assertEqual(wasted(GROVE, GROVE, [HANG] * 60), 60)


class Nails(unittest.TestCase):
    def test_examples(self):
        """p 1 alone is right; in the order of places, each once."""
        places = [("q", 0), ("p", 1), ("root", 0), ("q", 0), ("p", 0)]
        self.assertEqual(barred_nails(GROVE, OTHER_GROVE, places), [("root", 0), ("p", 0), ("q", 0)])
        self.assertEqual(barred_nails(GROVE, OTHER_GROVE, (("p", 1),)), [])
        self.assertEqual(barred_nails(GROVE, OTHER_GROVE, []), [])
        self.assertEqual(barred_nails(GROVE, GROVE, places), [])


class Errors(unittest.TestCase):
    def test_unlike_groves(self):
        for other in UNLIKE:
            for one, two in [(GROVE, other), (other, GROVE)]:
                raises(self, UnlikeGroves, {}, dues_after, one, two, [])
                raises(self, UnlikeGroves, {}, wasted, one, two, [])
                raises(self, UnlikeGroves, {}, barred_nails, one, two, [])


class Rules(unittest.TestCase):
    def test_rules(self):
        for call in [(dues_after, F, G, [SWAP]), (dues_after, F, G, []), (wasted, F, G, [SWAP]),
                     (barred_nails, GROVE, OTHER_GROVE, [("q", 0), ("root", 0)]), (barred_nails, GROVE, GROVE, [])]:
            keeps_the_rules(self, *call)
