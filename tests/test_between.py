import random
import time
import unittest

from kindredbush.bags import Bag
from kindredbush.bars import bar_of
from kindredbush.between import all_between, begins, first_deeds, is_between, nearest_grove
from kindredbush.coins import change, due, way
from kindredbush.deeds import all_deeds, done
from kindredbush.errors import BadDeed, BadTable, UnlikeGroves
from kindredbush.groves import Grove
from kindredbush.plainwalks import fewest_by_walks
from kindredbush.rings import rings
from kindredbush.scripts import price
from tests.support import GROVE, ODD_VALUES, OTHER_GROVE, RING_TABLE, cases, keeps_the_rules, raises
from tests.test_coins import SWAP, good, grown, nested_table, some_joints
from tests.test_deeds import EMPTY, STUCK, twin
from tests.test_flows import F, G
from tests.test_groves import all_groves
from tests.test_pieces import all_tries, plain_deed
from tests.test_plainwalks import DOMINO_ONE, DOMINO_OTHER, RING_ONE, RING_OTHER, free_grove, key_of
from tests.test_rings import UNLIKE, pairs, plain_rings

HANG = ("hang", ("p", 0), ("p", 1))


def plain_due(f, g):
    return len(f.rows()) - len(plain_rings(f, g))


def plain_first(f, g):
    """S7.4 word by word: the deeds behind which what is left is less by what they cost."""
    return [deed for deed in all_deeds(f) if price([deed]) + plain_due(done(f, deed), g) == plain_due(f, g)]


def plain_between(f, g):
    """S7.4 word by word, of all groves."""
    found = [h for h in all_groves(f.bag(), f.roots()) if plain_due(f, h) + plain_due(h, g) == plain_due(f, g)]
    return sorted(found, key=lambda h: (plain_due(f, h), key_of(h)))


def led_to(f, g):
    """All groves to which first deeds lead from f, from one of these to the next."""
    found = [f]
    for grove in found:
        for deed in first_deeds(grove, g):
            after = done(grove, deed)
            if after not in found:
                found.append(after)
    return found


class First(unittest.TestCase):
    def test_word_by_word(self):
        met = set()
        for f, g in pairs(200):
            if not good(f):
                continue
            wanted = plain_first(f, g)
            self.assertEqual(first_deeds(f, g), wanted)
            self.assertEqual(bool(wanted), f != g)
            tries = [deed for deed in all_tries(f) if plain_deed(f, deed)] if len(f.rows()) < 6 else all_deeds(f)
            for deed in tries:
                self.assertIs(begins(f, g, deed), deed in wanted or twin(deed) in wanted)
                self.assertIs(begins(f, g, deed), change(f, g, deed) == price([deed]))
                if deed[0] == "hang":
                    self.assertIs(begins(f, g, deed), any(deed[1] in ring and deed[2] in ring for ring in rings(f, g)))
                met.add((deed[0], begins(f, g, deed)))
        self.assertEqual(len(met), 4)

    def test_the_coins_of_what_is_left(self):
        met = 0
        for f, g in pairs(201):
            if good(f) and due(f, g) <= 4 and len(f.rows()) < 6:
                for deed in all_deeds(f):
                    left = fewest_by_walks(done(f, deed), g, 5)
                    met += 1
                    self.assertIs(begins(f, g, deed), left is not None and left + price([deed]) == due(f, g))
        self.assertGreater(met, 100)

    def test_examples(self):
        self.assertEqual(first_deeds(F, G), [SWAP])
        self.assertEqual(first_deeds(F, F), [])
        self.assertIs(begins(F, G, SWAP), True)
        self.assertIs(begins(F, G, twin(SWAP)), True)
        self.assertIs(begins(F, F, SWAP), False)
        self.assertIs(begins(GROVE, OTHER_GROVE, HANG), False)
        self.assertEqual(first_deeds(EMPTY, EMPTY), [])
        self.assertEqual(first_deeds(STUCK, STUCK), [])

    def test_the_first_deed_of_a_way(self):
        for f, g in pairs(202):
            if good(f) and f != g:
                self.assertIs(begins(f, g, way(f, g)[0]), True)

    def test_twelve_joints(self):
        chance = random.Random(203)
        start = time.monotonic()
        for _ in range(3):
            bag, roots = some_joints(chance, nested_table(chance), 12)
            f, g = grown(chance, bag, roots), grown(chance, bag, roots)
            if f is not None and g is not None:
                self.assertEqual(first_deeds(f, g), plain_first(f, g))
        chain = free_grove(*[1] * 11, 0)
        names = [f"j{number}" for number in range(12)]
        bush = ("j11",)
        for name in names[:11]:
            bush = (name, bush)
        other = Grove(chain.bag(), chain.roots(), [bush])
        self.assertTrue(first_deeds(chain, other))
        self.assertLess(time.monotonic() - start, 30)


class Between(unittest.TestCase):
    def test_word_by_word(self):
        chance = random.Random(204)
        for f, g in pairs(205):
            if good(f):
                for h in [f, g, chance.choice(all_groves(f.bag(), f.roots()))]:
                    self.assertIs(is_between(f, h, g), plain_due(f, h) + plain_due(h, g) == plain_due(f, g))
                self.assertIs(is_between(f, f, g) and is_between(f, g, g), True)

    def test_all(self):
        met = 0
        for f, g in pairs(206):
            if good(f) and due(f, g) <= 4:
                wanted = plain_between(f, g)
                self.assertEqual(all_between(f, g), wanted)
                self.assertTrue(all(grove in wanted for grove in led_to(f, g)))
                self.assertEqual(len(led_to(f, g)), len(wanted))
                met = max(met, len(wanted))
        self.assertGreater(met, 5)

    def test_examples(self):
        self.assertEqual(all_between(F, G), [F, G])
        self.assertEqual(all_between(G, F), [G, F])
        self.assertEqual(all_between(F, F), [F])
        self.assertEqual(all_between(EMPTY, EMPTY), [EMPTY])
        self.assertIs(is_between(GROVE, OTHER_GROVE, GROVE), False)
        self.assertIs(is_between(GROVE, GROVE, GROVE), True)

    def test_the_order(self):
        """Four joints at as many roots, all changed about: by due, and then by the joints at the places."""
        start = free_grove(0, 0, 0, 0)
        turned = Grove(start.bag(), start.roots(), [start.bushes()[number] for number in (1, 2, 3, 0)])
        found = all_between(start, turned)
        self.assertEqual(found, plain_between(start, turned))
        self.assertEqual(len(found), 14)
        self.assertEqual([due(start, grove) for grove in found], [0] + [1] * 6 + [2] * 6 + [3])
        self.assertEqual([key_of(grove) for grove in found[1:7]], sorted(key_of(grove) for grove in found[1:7]))

    def test_eight_joints(self):
        chance = random.Random(207)
        start = time.monotonic()
        met = 0
        while met < 4:
            bag, roots = some_joints(chance, nested_table(chance), 8)
            f, g = grown(chance, bag, roots), grown(chance, bag, roots)
            if f is not None and g is not None and due(f, g) in (3, 4):
                met += 1
                found = all_between(f, g)
                self.assertEqual((found[0], found[-1]), (f, g))
                self.assertTrue(all(is_between(f, h, g) for h in found))
        self.assertLess(time.monotonic() - start, 30)


class Nearest(unittest.TestCase):
    def test_word_by_word(self):
        chance = random.Random(208)
        for f, _ in pairs(209):
            groves = [chance.choice(all_groves(f.bag(), f.roots())) for _ in range(chance.randint(1, 5))]
            dues = [plain_due(f, grove) for grove in groves]
            self.assertEqual(nearest_grove(f, groves), dues.index(min(dues)))

    def test_examples(self):
        self.assertEqual(nearest_grove(F, [G, F, F]), 1)
        self.assertEqual(nearest_grove(F, (G, G)), 0)
        self.assertEqual(nearest_grove(F, [G]), 0)

    def test_bad_tables(self):
        self.assertEqual(nearest_grove(RING_ONE, [RING_OTHER, RING_ONE]), 1)
        self.assertEqual(nearest_grove(DOMINO_ONE, [DOMINO_OTHER]), 0)

    def test_all_are_looked_at(self):
        for other in UNLIKE:
            for groves in ([other], [GROVE, other], [other, GROVE], [OTHER_GROVE, GROVE, other]):
                raises(self, UnlikeGroves, {}, nearest_grove, GROVE, groves)


class Errors(unittest.TestCase):
    def test_unlike_groves(self):
        for other in UNLIKE:
            for one, two in [(GROVE, other), (other, GROVE)]:
                raises(self, UnlikeGroves, {}, begins, one, two, None)
                raises(self, UnlikeGroves, {}, first_deeds, one, two)
                raises(self, UnlikeGroves, {}, all_between, one, two)
                for groves in [(one, one, two), (one, two, one), (two, one, one)]:
                    raises(self, UnlikeGroves, {}, is_between, *groves)
        raises(self, UnlikeGroves, {}, begins, RING_ONE, DOMINO_ONE, None)
        raises(self, UnlikeGroves, {}, first_deeds, RING_ONE, GROVE)
        raises(self, UnlikeGroves, {}, all_between, RING_ONE, GROVE)
        raises(self, UnlikeGroves, {}, is_between, RING_ONE, GROVE, RING_ONE)
        raises(self, UnlikeGroves, {}, is_between, RING_ONE, RING_ONE, GROVE)

    def test_bad_tables(self):
        empty = Grove(Bag(RING_TABLE, []), [], [])
        one = Grove(Bag(RING_TABLE, [("j", "a", ())]), ["x"], [("j",)])
        for f, g in [(RING_ONE, RING_OTHER), (RING_ONE, RING_ONE), (DOMINO_ONE, DOMINO_OTHER), (DOMINO_ONE, DOMINO_ONE),
                     (empty, empty), (one, one)]:
            word, value = bar_of(f.bag().table())
            told = {"word": word, "value": value}
            for deed in [None, HANG] + all_deeds(f)[:1]:
                raises(self, BadTable, told, begins, f, g, deed)
            raises(self, BadTable, told, first_deeds, f, g)
            raises(self, BadTable, told, is_between, f, g, g)
            raises(self, BadTable, told, all_between, f, g)

    def test_no_deed(self):
        for value in cases(self, ODD_VALUES + [("hang", ("p", 1), ("q", 0)), list(HANG)]):
            raises(self, BadDeed, {"number": 0}, begins, GROVE, OTHER_GROVE, value)
            raises(self, BadDeed, {"number": 0}, begins, GROVE, GROVE, value)
            raises(self, BadDeed, {"number": 0}, begins, EMPTY, EMPTY, value)


class Rules(unittest.TestCase):
    def test_rules(self):
        start = free_grove(0, 0, 0)
        turned = Grove(start.bag(), start.roots(), [start.bushes()[number] for number in (1, 2, 0)])
        for call in [(begins, F, G, SWAP), (first_deeds, F, G), (first_deeds, start, turned), (is_between, F, G, G),
                     (all_between, start, turned), (all_between, F, F), (nearest_grove, F, [G, F])]:
            keeps_the_rules(self, *call)
