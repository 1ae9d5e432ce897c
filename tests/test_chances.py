import math
import random
import time
import unittest
from fractions import Fraction

from kindredbush.bags import Bag, places_of
from kindredbush.chances import chance_of_joint, chance_of_stem, mean, means, share
from kindredbush.counting import count_assemblies, count_groves
from kindredbush.errors import UnknownName
from kindredbush.matrices import fraction_determinant
from kindredbush.tables import Table
from tests.support import ODD_VALUES, cases, keeps_the_rules, raises
from tests.test_assemblies import all_assemblies
from tests.test_building import LOW
from tests.test_coins import nested_table, some_joints
from tests.test_counting import good_cases
from tests.test_groves import all_groves
from tests.test_matrices import BAG, ROOTS, TABLE, plain_pair

P0, P1, ROOT = ("p", 0), ("p", 1), ("root", 0)


def plain_chance(assemblies, holds):
    """S8.4: each assembly counts equally."""
    return plain_pair(Fraction(sum(map(holds, assemblies)), len(assemblies)))


def plain_mean(bag, assemblies, one, other):
    """S8.5 word by word."""
    joints = [joint for joint in bag.joints() if joint[1] == one]
    many = sum(bag.stem(assembly.joint((name, n))) == other for assembly in assemblies
               for name, _, branches in joints for n in range(len(branches)))
    return plain_pair(Fraction(many, len(assemblies) * len(joints)))


class Chances(unittest.TestCase):
    def test_all(self):
        met = set()
        for bag, roots in good_cases(270, 5, 30):
            found = list(all_assemblies(bag, roots))
            for place in places_of(bag, roots):
                for stem in bag.table().stems():
                    wanted = plain_chance(found, lambda one: bag.stem(one.joint(place)) == stem) if found else None
                    met.add(wanted)
                    self.assertEqual(chance_of_stem(bag, roots, place, stem), wanted)
                for name in bag.names():
                    wanted = plain_chance(found, lambda one: one.joint(place) == name) if found else None
                    self.assertEqual(chance_of_joint(bag, roots, place, name), wanted)
        self.assertGreater(len(met), 12)

    def test_examples(self):
        self.assertEqual(chance_of_stem(BAG, ROOTS, P0, "red"), (1, 2))
        self.assertEqual(chance_of_joint(BAG, ROOTS, P1, "x"), (1, 4))
        self.assertEqual(chance_of_stem(BAG, ROOTS, ROOT, "red"), (1, 1))
        self.assertEqual(chance_of_stem(BAG, ROOTS, ROOT, "blue"), (0, 1))
        self.assertEqual(chance_of_joint(BAG, ROOTS, ROOT, "q"), (0, 1))

    def test_no_assembly(self):
        for bag, roots, place in [(BAG, [], P0), (BAG, ["rim", "bud"], ROOT), (LOW, ["x", "x"], ROOT)]:
            for stem in bag.table().stems():
                self.assertIsNone(chance_of_stem(bag, roots, place, stem))
            for name in bag.names():
                self.assertIsNone(chance_of_joint(bag, roots, place, name))

    def test_unknown_names(self):
        """Places first, and all of it ahead of the None of bags without an assembly."""
        for value in cases(self, [one for one in ODD_VALUES if one != ("root", 0)] + ["red", "rim", ("p", 2), ("x", 0)]):
            for roots in (ROOTS, []):
                raises(self, UnknownName, {"name": value}, chance_of_stem, BAG, roots, value, "nothere")
                raises(self, UnknownName, {"name": value}, chance_of_joint, BAG, roots, value, "nothere")
                raises(self, UnknownName, {"name": value}, chance_of_joint, BAG, roots, value, "x")
        for value in cases(self, ODD_VALUES + ["rim", "p", "root"]):
            raises(self, UnknownName, {"name": value}, chance_of_stem, BAG, ROOTS, P0, value)
            raises(self, UnknownName, {"name": value}, chance_of_stem, BAG, [], P0, value)
        for value in cases(self, ODD_VALUES + ["rim", "red", "root"]):
            raises(self, UnknownName, {"name": value}, chance_of_joint, BAG, ROOTS, P0, value)
            raises(self, UnknownName, {"name": value}, chance_of_joint, BAG, [], P0, value)
        raises(self, UnknownName, {"name": ROOT}, chance_of_stem, BAG, [], ROOT, "red")


class Means(unittest.TestCase):
    def test_all(self):
        met = set()
        for bag, roots in good_cases(280, 5, 30):
            found = list(all_assemblies(bag, roots))
            had = [stem for stem in bag.table().stems() if any(joint[1] == stem for joint in bag.joints())]
            rows = [[plain_mean(bag, found, one, other) for other in had] for one in had] if found else None
            self.assertEqual(means(bag, roots), None if rows is None else (had, rows))
            for one in bag.table().stems():
                for other in bag.table().stems():
                    wanted = None
                    if found and one in had:
                        wanted = plain_mean(bag, found, one, other) if other in had else (0, 1)
                    met.add(wanted)
                    self.assertEqual(mean(bag, roots, one, other), wanted)
            wanted = plain_pair(Fraction(len(all_groves(bag, roots)), len(found))) if found else None
            self.assertEqual(share(bag, roots), wanted)
        self.assertGreater(len(met), 12)

    def test_examples(self):
        self.assertEqual(means(BAG, ROOTS), (["red", "blue"], [[(1, 2), (1, 2)], [(0, 1), (0, 1)]]))
        self.assertEqual(mean(BAG, ROOTS, "red", "blue"), (1, 2))
        self.assertEqual(mean(BAG, ROOTS, "blue", "red"), (0, 1))
        self.assertEqual(share(BAG, ROOTS), (1, 2))

    def test_stems_without_joints(self):
        table = Table(["more", "red", "blue", "less"], ["rim", "bud"], TABLE.fits() + [("less", "bud")])
        bag = Bag(table, BAG.joints())
        self.assertEqual(means(bag, ROOTS)[0], ["red", "blue"])
        for stem in ("more", "less"):
            self.assertIsNone(mean(bag, ROOTS, stem, "red"))
            self.assertIsNone(mean(bag, ROOTS, stem, stem))
            self.assertEqual(mean(bag, ROOTS, "red", stem), (0, 1))

    def test_no_assembly(self):
        for roots in ([], ["rim", "rim"], ["bud"] * 3):
            self.assertIsNone(means(BAG, roots))
            self.assertIsNone(share(BAG, roots))
            self.assertIsNone(mean(BAG, roots, "red", "blue"))

    def test_nothing(self):
        self.assertEqual((means(Bag(TABLE, []), []), share(Bag(TABLE, []), [])), (([], []), (1, 1)))
        self.assertIsNone(mean(Bag(TABLE, []), [], "red", "blue"))
        self.assertIsNone(means(Bag(TABLE, []), ["rim"]))
        loop = Bag(TABLE, [("a", "red", ("rim",))])
        self.assertEqual((means(loop, []), share(loop, [])), ((["red"], [[(1, 1)]]), (0, 1)))

    def test_unknown_names(self):
        for value in cases(self, ODD_VALUES + ["rim", "p"]):
            for roots in (ROOTS, []):
                raises(self, UnknownName, {"name": value}, mean, BAG, roots, value, "red")
                raises(self, UnknownName, {"name": value}, mean, BAG, roots, value, "nothere")
                raises(self, UnknownName, {"name": value}, mean, BAG, roots, "blue", value)


class Shares(unittest.TestCase):
    def test_determinants(self):
        """S8.5: the share is the determinant of the unit square less the means, also of thirty joints."""
        chance = random.Random(290)
        start = time.monotonic()
        tried = [pair for pair in good_cases(291, 9, 12) if share(*pair) is not None]
        self.assertGreater(len(tried), 40)
        for _ in range(4):
            tried.append(some_joints(chance, nested_table(chance), 30))
        for bag, roots in tried:
            stems, rows = means(bag, roots)
            square = [[((one == at) * b - a, b) for at, (a, b) in enumerate(row)] for one, row in enumerate(rows)]
            self.assertEqual(share(bag, roots), fraction_determinant(square))
            a, b = share(bag, roots)
            self.assertEqual((a * count_assemblies(bag, roots), math.gcd(a, b)), (b * count_groves(bag, roots), 1))
        self.assertLess(time.monotonic() - start, 30)

    def test_chances_add_up(self):
        chance = random.Random(292)
        bag, roots = some_joints(chance, nested_table(chance), 30)
        for place in places_of(bag, roots):
            self.assertEqual(sum(Fraction(*chance_of_joint(bag, roots, place, name)) for name in bag.names()), 1)
            self.assertEqual(sum(Fraction(*chance_of_stem(bag, roots, place, stem)) for stem in bag.table().stems()), 1)


class Rules(unittest.TestCase):
    def test_rules(self):
        for call in [(chance_of_stem, BAG, ROOTS, P0, "red"), (chance_of_joint, BAG, ROOTS, P0, "x"),
                     (mean, BAG, ROOTS, "red", "blue"), (means, BAG, ROOTS), (share, BAG, ROOTS),
                     (means, Bag(TABLE, []), []), (means, BAG, [])]:
            keeps_the_rules(self, *call)
