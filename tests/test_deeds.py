import random
import time
import unittest

from kindredbush.bags import Bag, places_of
from kindredbush.deeds import all_deeds, canonical, deed_back, done
from kindredbush.errors import BadDeed
from kindredbush.groves import Grove
from kindredbush.tables import Table
from tests.support import GROVE, ODD_VALUES, cases, keeps_the_rules, raises
from tests.test_pieces import CHAIN, EMPTY, FREE, all_tries, plain_deed, plain_rows, some_groves

ROOT, P0, P1, Q0 = ("root", 0), ("p", 0), ("p", 1), ("q", 0)
# A grove at which no deed can be done: each joint fits its own place alone.
STUCK_TABLE = Table(["a", "b"], ["x", "y"], [("a", "x"), ("b", "y")])
STUCK = Grove(Bag(STUCK_TABLE, [("p", "a", ("y",)), ("q", "b", ())]), ["x"], [("p", ("q",))])
GROVES = [GROVE, CHAIN, STUCK, EMPTY] + some_groves(4, 12, 4) + some_groves(5, 5, 5)


def case_of(deed):
    """The number of the case of S4.3, or 0 for a hang."""
    if deed[0] == "hang":
        return 0
    _, s, t, u, v = deed
    found = [number for number, holds in [(1, len({s, t, u, v}) == 4), (2, s != t and u != v and t == u),
                                          (3, s != t and u != v and v == s), (4, s == t), (5, u == v)] if holds]
    assert len(found) == 1
    return found[0]


def is_canonical(grove, deed):
    places = places_of(grove.bag(), grove.roots())
    return places.index(deed[1]) < places.index(deed[1 + len(deed) // 2])


def twin(deed):
    """The other tuple that does the same."""
    half = len(deed) // 2
    return (deed[0], *deed[1 + half:], *deed[1:1 + half])


class Done(unittest.TestCase):
    def test_word_by_word(self):
        met = set()
        for grove in GROVES:
            for deed in all_tries(grove):
                if plain_deed(grove, deed):
                    met.add(case_of(deed))
                    self.assertEqual(dict(done(grove, deed).rows()), plain_rows(grove, deed))
                    self.assertEqual(done(grove, deed), done(grove, twin(deed)))
        self.assertEqual(met, {0, 1, 2, 3, 4, 5})

    def test_examples(self):
        for deed, bush, back in [
                (("hang", P0, P1), ("p", ("r",), ("q", ("t",))), ("hang", P0, P1)),
                (("stretch", ROOT, P0, P0, Q0), ("q", ("p", ("t",), ("r",))), ("stretch", ROOT, Q0, Q0, P0)),
                (("stretch", P0, Q0, P1, P1), ("p", ("t",), ("q", ("r",))), ("stretch", P0, P0, P1, Q0))]:
            self.assertEqual(done(GROVE, deed), Grove(GROVE.bag(), ["x"], [bush]))
            self.assertEqual(deed_back(GROVE, deed), back)
            self.assertEqual(deed_back(GROVE, twin(deed)), back)
            self.assertEqual(done(done(GROVE, deed), back), GROVE)
        for deed, bush in [(("stretch", ROOT, ("k", 0), ("l", 0), ("m", 0)), ("m", ("l", ("k", ("n",))))),
                           (("stretch", ROOT, ("k", 0), ("k", 0), ("l", 0)), ("l", ("k", ("m", ("n",)))))]:
            self.assertEqual(done(CHAIN, deed).bushes(), [bush])

    def test_the_five_cases(self):
        """S4.3 and S4.5, in a chain of seven joints beside one of three, by what stands where."""
        names = [f"j{number}" for number in range(7)] + ["l0", "l1", "l2"]
        bag = Bag(FREE, [(name, "k", () if name in ("j6", "l2") else ("l",)) for name in names])
        bush = ("j6",)
        for name in names[5::-1]:
            bush = (name, bush)
        grove = Grove(bag, ["l", "l"], [bush, ("l0", ("l1", ("l2",)))])
        a, b, c, d = [(f"j{number}", 0) for number in (0, 2, 3, 5)]
        top, low = ("root", 1), ("l1", 0)
        for deed, moved, back in [
                (("hang", a, low), {a: low, low: a}, ("hang", a, low)),
                (("hang", low, a), {a: low, low: a}, ("hang", a, low)),
                (("stretch", a, b, c, d), {a: c, c: a, b: d, d: b}, ("stretch", a, d, c, b)),
                (("stretch", c, d, a, b), {a: c, c: a, b: d, d: b}, ("stretch", a, d, c, b)),
                (("stretch", a, b, top, low), {a: top, top: a, b: low, low: b}, ("stretch", top, b, a, low)),
                (("stretch", a, b, b, d), {a: b, d: a, b: d}, ("stretch", a, d, d, b)),
                (("stretch", b, d, a, b), {a: b, d: a, b: d}, ("stretch", a, d, d, b)),
                (("stretch", low, low, b, d), {low: b, d: low, b: d}, ("stretch", b, b, low, d)),
                (("stretch", b, d, low, low), {low: b, d: low, b: d}, ("stretch", b, b, low, d))]:
            after = done(grove, deed)
            for place, name in grove.rows():
                self.assertEqual(after.joint(place), grove.joint(moved.get(place, place)), (deed, place))
            self.assertEqual(deed_back(grove, deed), back)
            self.assertEqual(done(after, back), grove)

    def test_no_deed(self):
        odd = [("hang", P1, Q0), ("hang", P0, P0), ("hang", ROOT, P0), ("stretch", P0, P0, P1, P1), ["hang", P0, P1],
               ("stretch", ROOT, P0, P0), "hang", ("hang", ("p", False), P1)]
        for value in cases(self, ODD_VALUES + odd):
            raises(self, BadDeed, {"number": 0}, done, GROVE, value)
            raises(self, BadDeed, {"number": 0}, deed_back, GROVE, value)
            raises(self, BadDeed, {"number": 0}, done, EMPTY, value)


class Canonical(unittest.TestCase):
    def test_both(self):
        for grove in GROVES:
            for deed in all_tries(grove):
                if plain_deed(grove, deed):
                    told = canonical(grove.bag(), grove.roots(), deed)
                    self.assertIn(told, (deed, twin(deed)))
                    self.assertTrue(is_canonical(grove, told))
                    self.assertEqual(canonical(grove.bag(), list(grove.roots()), twin(deed)), told)

    def test_whichever_hangs_above(self):
        """q, the later joint of the bag, hangs above p."""
        grove = done(GROVE, ("stretch", ROOT, P0, P0, Q0))
        self.assertEqual(canonical(grove.bag(), ("x",), ("stretch", ROOT, Q0, Q0, P0)), ("stretch", ROOT, Q0, Q0, P0))
        bag = Bag(FREE, [("n", "k", ("l",)), ("m", "k", ("l",)), ("o", "k", ("l",)), ("p", "k", ())])
        grove = Grove(bag, ["l"], [("o", ("m", ("n", ("p",))))])
        low_first = ("stretch", ("m", 0), ("n", 0), ("o", 0), ("m", 0))
        self.assertEqual(canonical(bag, ["l"], ("stretch", ("o", 0), ("m", 0), ("m", 0), ("n", 0))), low_first)
        self.assertIn(low_first, all_deeds(grove))

    def test_back(self):
        for grove in GROVES:
            for deed in all_deeds(grove):
                after = done(grove, deed)
                back = deed_back(grove, deed)
                self.assertIn(back, all_deeds(after))
                self.assertEqual(len(back), len(deed))
                self.assertEqual(done(after, back), grove)
                self.assertEqual(deed_back(after, back), deed)


class All(unittest.TestCase):
    def test_word_by_word(self):
        for grove in GROVES:
            places = places_of(grove.bag(), grove.roots())
            wanted = [deed for deed in all_tries(grove) if plain_deed(grove, deed) and is_canonical(grove, deed)]
            key = [(len(deed), *[places.index(place) for place in deed[1:]]) for deed in wanted]
            self.assertEqual(key, sorted(key))
            self.assertEqual(all_deeds(grove), wanted)

    def test_examples(self):
        self.assertEqual(all_deeds(GROVE), [("hang", P0, P1), ("stretch", ROOT, P0, P0, Q0),
                                            ("stretch", P0, Q0, P1, P1)])
        self.assertEqual(all_deeds(STUCK), [])
        self.assertEqual(all_deeds(EMPTY), [])

    def test_all_lead_elsewhere(self):
        for grove in GROVES:
            rows = [tuple(done(grove, deed).rows()) for deed in all_deeds(grove)]
            self.assertEqual(len(set(rows)), len(rows))
            self.assertNotIn(tuple(grove.rows()), rows)


class Rules(unittest.TestCase):
    def test_rules(self):
        for call in [(done, GROVE, ("hang", P0, P1)), (deed_back, GROVE, ("stretch", ROOT, P0, P0, Q0)),
                     (canonical, GROVE.bag(), ["x"], ("stretch", P1, P1, P0, Q0)), (all_deeds, GROVE),
                     (all_deeds, CHAIN), (all_deeds, STUCK)]:
            keeps_the_rules(self, *call)

    def test_great_groves(self):
        """All deeds of 12 joints in one chain, and single deeds of 30 joints."""
        names = [f"j{number}" for number in range(12)]
        random.Random(8).shuffle(names)
        bush = (names[0],)
        for name in names[1:]:
            bush = (name, bush)
        bag = Bag(FREE, [(name, "k", () if name == names[0] else ("l",)) for name in sorted(names)])
        start = time.monotonic()
        deeds = all_deeds(Grove(bag, ["l"], [bush]))
        # All places lie below one another; so two stretches, none empty, one below the other: four ends or three.
        self.assertEqual(len(deeds), 12 * 11 * 10 * 9 // 24 + 12 * 11 * 10 // 6)
        self.assertLess(time.monotonic() - start, 5)
        bag = Bag(FREE, [(f"j{number}", "k", ("l",) * 3 * (number < 10)) for number in range(30)] + [("z", "k", ())])
        left = [f"j{number}" for number in range(30)] + ["z"]

        def grown():
            name = left.pop(0)
            return (name, *[grown() for _ in bag.branches(name)])

        grove = Grove(bag, ["l"], [grown()])
        deed = ("stretch", ("root", 0), ("j5", 0), ("j6", 0), ("j9", 2))
        self.assertEqual(done(done(grove, deed), deed_back(grove, deed)), grove)
