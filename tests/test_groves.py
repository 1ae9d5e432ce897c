import itertools
import random
import unittest

from kindredbush.bags import Bag, fits_there, places_of
from kindredbush.errors import BadGrove, UnknownName
from kindredbush.groves import Grove
from kindredbush.tables import Table
from tests.support import BAG, BUSH_TABLE, GROVE, ODD_VALUES, OTHER_GROVE, cases, keeps_the_rules, raises

BUSH = ("p", ("q", ("t",)), ("r",))
PLACES = [("root", 0), ("p", 0), ("p", 1), ("q", 0)]
EMPTY_BAG = Bag(BUSH_TABLE, [])
# Two roots of one colour, and some more joints.
WIDE_BAG = Bag(BUSH_TABLE, [("d", "b", ()), ("a", "a", ("y", "y", "x")), ("c", "a", ("x",)), ("b", "b", ("y",)),
                            ("e", "a", ()), ("f", "a", ()), ("g", "b", ())])
WIDE_ROOTS = ("y", "x")
WIDE_BUSHES = (("b", ("d",)), ("a", ("g",), ("c", ("e",)), ("f",)))


def walk_of(bush):
    """The names of a bush in the order of a walk."""
    return [bush[0]] + [name for part in bush[1:] for name in walk_of(part)]


def spots_of(place, bush):
    """The pairs (place, bush) in a bush, in the order of a walk."""
    found = [(place, bush)]
    for number, part in enumerate(bush[1:]):
        found += spots_of((bush[0], number), part)
    return found


def plain_above(grove, one, other):
    """S3.4 word by word: the owner of the other place hangs at the one."""
    bushes = dict(spot for number, bush in enumerate(grove.bushes()) for spot in spots_of(("root", number), bush))
    return other[0] != "root" and other[0] in walk_of(bushes[one])


def all_groves(bag, roots):
    """All groves, by putting the joints at all places in each way and following them from the roots."""
    places = places_of(bag, roots)
    found = []
    for names in itertools.permutations(bag.names()):
        joints = dict(zip(places, names))
        if len(places) == len(names) and all(fits_there(bag, roots, joints[place], place) for place in places):
            bushes = [follow(bag, joints, ("root", number), 0) for number in range(len(roots))]
            if None not in bushes and sum(len(walk_of(bush)) for bush in bushes) == len(names):
                found.append(Grove(bag, roots, bushes))
    return found


def follow(bag, joints, place, depth):
    name = joints[place]
    if depth > len(joints):
        return None
    parts = [follow(bag, joints, (name, number), depth + 1) for number in range(len(bag.branches(name)))]
    return None if None in parts else (name, *parts)


class WrongParts(unittest.TestCase):
    def wrong(self, path, roots, bushes, bag=BAG):
        raises(self, BadGrove, {"path": path}, Grove, bag, roots, bushes)

    def test_roots(self):
        for value in cases(self, [one for one in ODD_VALUES if not isinstance(one, (list, tuple))] + ["x", {"x": 1}]):
            self.wrong((0,), value, [BUSH])
            self.wrong((0,), value, value)
        for value in cases(self, ODD_VALUES + ["z", "a", "p"]):
            self.wrong((0, 0), [value], [BUSH])
            self.wrong((0, 0), (value, value), None)
            self.wrong((0, 2), ("x", "y", value), [BUSH])

    def test_bushes(self):
        for value in cases(self, [one for one in ODD_VALUES if not isinstance(one, (list, tuple))] + ["p", {"p": 1}]):
            self.wrong((1,), ["x"], value)
            self.wrong((1,), [], value, EMPTY_BAG)
        self.wrong((1,), ["x"], [])
        self.wrong((1,), ["x"], ())
        self.wrong((1,), ["x"], [BUSH, BUSH])
        self.wrong((1,), [], [BUSH])
        self.wrong((1,), ["x", "x"], [None])

    def test_no_bush(self):
        for value in cases(self, [one for one in ODD_VALUES if not isinstance(one, tuple)] + ["p", list(BUSH), ()]):
            self.wrong((1, 0), ["x"], [value])
            self.wrong((1, 0, 1), ["x"], [("p", value, ("r",))])
            self.wrong((1, 0, 2), ["x"], [("p", ("q", ("t",)), value)])
            self.wrong((1, 0, 1, 1), ["x"], [("p", ("q", value), ("r",))])
            self.wrong((1, 1), WIDE_ROOTS, [WIDE_BUSHES[0], value], WIDE_BAG)
            self.wrong((1, 1, 2, 1), WIDE_ROOTS, [WIDE_BUSHES[0], ("a", ("g",), ("c", value), ("f",))], WIDE_BAG)

    def test_no_name(self):
        for value in cases(self, ODD_VALUES + ["s", "root", "a", "x", ("p", 0), "abcdefghijklm"]):
            self.wrong((1, 0, 0), ["x"], [(value,)])
            self.wrong((1, 0, 0), ["x"], [(value, ("q", ("t",)), ("r",))])
            self.wrong((1, 0, 2, 0), ["x"], [("p", ("q", ("t",)), (value, value))])
            self.wrong((1, 0, 1, 1, 0), ["x"], [("p", ("q", (value,)), ("r",))])

    def test_a_name_that_stood_earlier(self):
        self.wrong((1, 0, 1, 0), ["x"], [("p", ("p",), ("r",))])
        self.wrong((1, 0, 2, 0), ["x"], [("p", ("q", ("t",)), ("t",))])
        self.wrong((1, 0, 2, 0), ["x"], [("p", ("q", ("r",)), ("r",))])
        self.wrong((1, 1, 0), ["y", "y"], [BUSH, ("r",)])
        self.wrong((1, 1, 0), ["y", "y"], [BUSH, ("p", None)])

    def test_a_joint_that_does_not_fit(self):
        self.wrong((1, 0, 2, 0), ["x"], [("p", ("q", ("r",)), ("t",))])
        self.wrong((1, 0, 0), ["x"], [("t", None, None)])
        self.wrong((1, 1, 0), ["x", "x"], [("r",), ("t",)])
        self.wrong((1, 0, 2, 0), ["y"], [("p", ("t",), ("t",))])

    def test_the_number_of_members(self):
        self.wrong((1, 0), ["x"], [("p",)])
        self.wrong((1, 0), ["x"], [("p", ("q", ("t",)))])
        self.wrong((1, 0), ["x"], [("p", ("q", ("t",)), ("r",), ("r",))])
        self.wrong((1, 0), ["x"], [("p", None, None, None)])
        self.wrong((1, 0, 1), ["x"], [("p", ("q",), None)])
        self.wrong((1, 0, 1), ["x"], [("p", ("q", ("t",), ("t",)), None)])
        self.wrong((1, 0, 2), ["x"], [("p", ("q", ("t",)), ("r", ("t",)))])
        self.wrong((1, 0, 1, 1), ["x"], [("p", ("q", ("t", ())), ())])

    def test_the_order_of_a_walk(self):
        self.wrong((1, 0, 1, 1), ["x"], [("p", ("q", None), None)])
        self.wrong((1, 0, 1, 1), ["x", "x"], [("p", ("q", None), None), None])
        self.wrong((1, 0, 2), ["x", "x"], [("p", ("q", ("t",)), None), None])
        self.wrong((1, 1), ["x", "x"], [("p", ("q", ("t",)), ("r",)), None])

    def test_a_joint_that_stands_nowhere(self):
        self.wrong((), ["x"], [("r",)])
        self.wrong((), ["x"], [("q", ("t",))])
        self.wrong((), [], [])
        self.wrong((), ["y", "y"], [("r",), ("t",)])
        self.wrong((), (), ())

    def test_the_empty_bag_with_roots(self):
        self.wrong((1,), ["x"], [], EMPTY_BAG)
        self.wrong((1, 0), ["x"], [()], EMPTY_BAG)
        self.wrong((1, 0, 0), ["x"], [("p",)], EMPTY_BAG)
        self.wrong((1, 0), ["x", "x"], [5, ()], EMPTY_BAG)


class Told(unittest.TestCase):
    def test_example(self):
        self.assertEqual(GROVE.bag(), BAG)
        self.assertEqual(GROVE.roots(), ("x",))
        self.assertEqual(GROVE.bushes(), [BUSH])
        self.assertEqual(GROVE.rows(), [(("root", 0), "p"), (("p", 0), "q"), (("p", 1), "r"), (("q", 0), "t")])
        self.assertEqual(GROVE.walk(), ["p", "q", "t", "r"])
        self.assertEqual([GROVE.joint(place) for place in PLACES], ["p", "q", "r", "t"])
        self.assertEqual([GROVE.names(place) for place in PLACES], [["p", "q", "t", "r"], ["q", "t"], ["r"], ["t"]])
        self.assertEqual([GROVE.above(place) for place in PLACES],
                         [[], [("root", 0)], [("root", 0)], [("root", 0), ("p", 0)]])
        self.assertEqual([GROVE.place(name) for name in "pqrt"], [("root", 0), ("p", 0), ("p", 1), ("q", 0)])
        self.assertEqual(OTHER_GROVE.walk(), ["q", "p", "t", "r"])
        self.assertEqual(OTHER_GROVE.rows(), [(("root", 0), "q"), (("p", 0), "t"), (("p", 1), "r"), (("q", 0), "p")])
        self.assertEqual(OTHER_GROVE.above(("p", 1)), [("root", 0), ("q", 0)])

    def test_the_groves_of_the_example(self):
        groves = all_groves(BAG, ["x"])
        self.assertIn(GROVE, groves)
        self.assertIn(OTHER_GROVE, groves)
        self.assertNotIn((("p", ("q", ("r",)), ("t",)),), [tuple(grove.bushes()) for grove in groves])

    def test_the_empty_bag(self):
        for roots, bushes in [([], []), ((), ()), ([], ())]:
            grove = Grove(EMPTY_BAG, roots, bushes)
            self.assertEqual((grove.roots(), grove.bushes(), grove.rows(), grove.walk()), ((), [], [], []))
            self.assertEqual(grove, Grove(EMPTY_BAG, [], []))
        grove = Grove(EMPTY_BAG, [], [])
        for value in cases(self, ODD_VALUES):
            raises(self, UnknownName, {"name": value}, grove.joint, value)
            raises(self, UnknownName, {"name": value}, grove.place, value)

    def test_several_roots(self):
        grove = Grove(WIDE_BAG, list(WIDE_ROOTS), list(WIDE_BUSHES))
        self.assertEqual(grove.roots(), WIDE_ROOTS)
        self.assertEqual(grove.bushes(), list(WIDE_BUSHES))
        self.assertEqual(grove.walk(), ["b", "d", "a", "g", "c", "e", "f"])
        self.assertEqual(grove.rows(), [(("root", 0), "b"), (("root", 1), "a"), (("a", 0), "g"), (("a", 1), "c"),
                                        (("a", 2), "f"), (("c", 0), "e"), (("b", 0), "d")])
        self.assertEqual(grove.names(("root", 1)), ["a", "g", "c", "e", "f"])
        self.assertEqual(grove.above(("c", 0)), [("root", 1), ("a", 1)])
        self.assertIs(grove.is_above(("root", 1), ("c", 0)), True)
        self.assertIs(grove.is_above(("root", 0), ("c", 0)), False)
        self.assertIs(grove.is_apart(("root", 0), ("c", 0)), True)
        self.assertIs(grove.is_apart(("root", 0), ("root", 1)), True)

    def test_roots_of_one_colour(self):
        bag = Bag(BUSH_TABLE, [("k", "a", ()), ("l", "b", ()), ("m", "a", ("y",))])
        self.assertEqual([grove.bushes() for grove in all_groves(bag, ("y", "y"))], [
            [("k",), ("m", ("l",))], [("l",), ("m", ("k",))], [("m", ("l",)), ("k",)], [("m", ("k",)), ("l",)]])
        self.assertEqual([grove.bushes() for grove in all_groves(bag, ("x", "y"))], [
            [("k",), ("m", ("l",))], [("m", ("l",)), ("k",)], [("m", ("k",)), ("l",)]])

    def test_above_and_apart(self):
        for grove in all_groves(BAG, ["x"]) + [Grove(WIDE_BAG, WIDE_ROOTS, WIDE_BUSHES)]:
            places = places_of(grove.bag(), grove.roots())
            spots = dict(spot for n, bush in enumerate(grove.bushes()) for spot in spots_of(("root", n), bush))
            self.assertEqual(grove.rows(), [(place, spots[place][0]) for place in places])
            for one in places:
                self.assertEqual(grove.joint(one), spots[one][0])
                self.assertEqual(grove.place(spots[one][0]), one)
                self.assertEqual(grove.names(one), walk_of(spots[one]))
                above = [other for other in places if plain_above(grove, other, one)]
                self.assertEqual(sorted(grove.above(one)), sorted(above))
                self.assertEqual(grove.above(one), sorted(above, key=lambda other: -len(walk_of(spots[other]))))
                for other in places:
                    self.assertIs(grove.is_above(one, other), plain_above(grove, one, other))
                    self.assertIs(grove.is_apart(one, other), one != other and not plain_above(grove, one, other)
                                  and not plain_above(grove, other, one))

    def test_no_place(self):
        odd = [("root", 1), ("p", 2), ("t", 0), ("p", -1), ("p", True), ("q", False), ["p", 0], ("s", 0), "p"]
        for value in cases(self, ODD_VALUES + odd):
            for method in [GROVE.joint, GROVE.names, GROVE.above]:
                raises(self, UnknownName, {"name": value}, method, value)
            for method in [GROVE.is_above, GROVE.is_apart]:
                raises(self, UnknownName, {"name": value}, method, value, ("p", 0))
                raises(self, UnknownName, {"name": value}, method, ("root", 0), value)
                raises(self, UnknownName, {"name": value}, method, ("p", 0), value)
                raises(self, UnknownName, {"name": value}, method, value, "q")

    def test_no_name(self):
        for value in cases(self, ODD_VALUES + ["s", "a", "root", ("p", 0), ["p"]]):
            raises(self, UnknownName, {"name": value}, GROVE.place, value)

    def test_equality(self):
        self.assertIs(GROVE == Grove(Bag(BUSH_TABLE, tuple(BAG.joints())), ("x",), (BUSH,)), True)
        self.assertIs(GROVE != Grove(BAG, ["x"], [BUSH]), False)
        others = [OTHER_GROVE, Grove(BAG, ["y"], [BUSH]), Grove(Bag(BUSH_TABLE, BAG.joints()[::-1]), ["x"], [BUSH]),
                  Grove(Bag(Table(["a", "b"], ["y", "x"], BUSH_TABLE.fits()), BAG.joints()), ["x"], [BUSH]),
                  Grove(EMPTY_BAG, [], [])]
        for other in others + [one for one in ODD_VALUES if one is not GROVE] + [GROVE.bushes(), GROVE.rows()]:
            self.assertIs(GROVE == other, False)
            self.assertIs(other == GROVE, False)


class Rules(unittest.TestCase):
    def test_rules(self):
        for call in [(GROVE.bag,), (GROVE.roots,), (GROVE.bushes,), (GROVE.rows,), (GROVE.walk,),
                     (GROVE.joint, ("p", 0)), (GROVE.names, ("root", 0)), (GROVE.above, ("q", 0)),
                     (GROVE.above, ("root", 0)), (GROVE.is_above, ("p", 0), ("q", 0)), (GROVE.place, "t"),
                     (GROVE.is_apart, ("p", 0), ("p", 1)), (Grove, BAG, ["x"], [BUSH])]:
            keeps_the_rules(self, *call)

    def test_no_list_is_kept(self):
        roots, bushes = ["x"], [BUSH]
        grove = Grove(BAG, roots, bushes)
        roots.clear()
        bushes.clear()
        for told in [grove.bushes(), grove.rows(), grove.walk(), grove.names(("root", 0)), grove.above(("q", 0))]:
            told.clear()
        self.assertEqual(grove, GROVE)
        self.assertEqual((grove.walk(), grove.rows()), (GROVE.walk(), GROVE.rows()))

    def test_great_groves(self):
        """30 joints in one chain, and 30 joints with up to eight branches at eight roots."""
        table = Table(["a"], ["x"], [("a", "x")])
        names = [f"j{number}" for number in range(30)]
        bush = ("j29",)
        for name in names[28::-1]:
            bush = (name, bush)
        chain = Grove(Bag(table, [(name, "a", ("x",)) for name in names[:29]] + [("j29", "a", ())]), ["x"], [bush])
        self.assertEqual(chain.walk(), names)
        self.assertEqual(chain.above(("j28", 0)), [("root", 0)] + [(name, 0) for name in names[:28]])
        chance = random.Random(18)
        order = names[:]
        chance.shuffle(order)
        many = {name: 0 for name in names}
        for name, number in zip(order, [8, 8, 6]):
            many[name] = number
        bag = Bag(table, [(name, "a", ("x",) * many[name]) for name in names])
        left = order[:]

        def grown():
            name = left.pop(0)
            return (name, *[grown() for _ in range(many[name])])

        bushes = [grown() for _ in range(8)]
        grove = Grove(bag, ["x"] * 8, bushes)
        self.assertEqual(grove.walk(), order)
        self.assertEqual(len(grove.rows()), 30)
