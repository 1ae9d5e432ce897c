import unittest

from kindredbush.bags import Bag, colour_of, fits_there, is_place, places_of
from kindredbush.errors import BadBag, UnknownName
from kindredbush.tables import Table, turned
from tests.support import BAG, BUSH_TABLE, ODD_VALUES, T, cases, keeps_the_rules, raises

JOINTS = [("p", "a", ("y", "x")), ("q", "a", ("y",)), ("r", "a", ()), ("t", "b", ())]
PLACES = [("root", 0), ("p", 0), ("p", 1), ("q", 0)]
EMPTY = Bag(Table([], [], []), [])
# A word is a stem colour, a place colour and the name of a joint here.
SAME = Bag(Table(["a", "x"], ["x", "a"], [("a", "a")]), [("a", "a", ("a", "a", "x")), ("x", "x", ())])


class WrongParts(unittest.TestCase):
    def wrong(self, path, joints):
        raises(self, BadBag, {"path": path}, Bag, BUSH_TABLE, joints)

    def test_no_list(self):
        for value in cases(self, [one for one in ODD_VALUES if not isinstance(one, (list, tuple))] + ["p", {"p": 1}]):
            self.wrong((), value)

    def test_no_joints(self):
        for value in cases(self, ODD_VALUES + [["p", "a", ()], ("p", "a"), ("p", "a", (), ()), "pax"]):
            if not (isinstance(value, tuple) and len(value) == 3):
                self.wrong((0,), [value])
                self.wrong((1,), (JOINTS[0], value, JOINTS[0]))
        self.wrong((3,), JOINTS[:3] + [JOINTS[3][:2]])

    def test_names(self):
        for value in cases(self, ODD_VALUES + ["root", "abcdefghijklm"]):
            self.wrong((0, 0), [(value, value, value)])
            self.wrong((2, 0), JOINTS[:2] + [(value, "a", ())] + JOINTS[2:])
        self.wrong((1, 0), [("p", "a", ()), ("p", "c", None)])
        self.wrong((4, 0), JOINTS + [("q", "b", ("x",)), ("q", "b")])
        self.assertEqual(Bag(BUSH_TABLE, [("abcdefghijkl", "a", ())]).names(), ["abcdefghijkl"])

    def test_stems(self):
        for value in cases(self, ODD_VALUES + ["c", "x", "p"]):
            self.wrong((0, 1), [("p", value, value)])
            self.wrong((1, 1), [JOINTS[0], ("q", value, ("y",)), ("q", "a", ())])

    def test_branches(self):
        for value in cases(self, [one for one in ODD_VALUES if not isinstance(one, tuple)] + [["y"], "y"]):
            self.wrong((0, 2), [("p", "a", value)])
            self.wrong((3, 2), JOINTS[:3] + [("t", "b", value)])
        for value in cases(self, ODD_VALUES + ["z", "a", "p"]):
            self.wrong((0, 2, 0), [("p", "a", (value,))])
            self.wrong((0, 2, 0), [("p", "a", (value, value)), None])
            self.wrong((1, 2, 2), [JOINTS[0], ("q", "a", ("y", "x", value, "x")), JOINTS[0]])

    def test_a_joint_ahead_of_the_next_one(self):
        self.wrong((0, 2, 1), [("p", "a", ("x", "q")), ("root", "a", ())])
        self.wrong((0, 0), [("root", "q", ("q",)), ("p", "a")])


class Told(unittest.TestCase):
    def test_lists(self):
        self.assertEqual(BAG.table(), BUSH_TABLE)
        self.assertEqual(BAG.joints(), JOINTS)
        self.assertEqual(BAG.names(), ["p", "q", "r", "t"])
        self.assertEqual([BAG.stem(name) for name in "pqrt"], ["a", "a", "a", "b"])
        self.assertEqual([BAG.branches(name) for name in "pqrt"], [("y", "x"), ("y",), (), ()])
        self.assertEqual((EMPTY.joints(), EMPTY.names()), ([], []))

    def test_a_tuple_of_joints(self):
        self.assertEqual(Bag(BUSH_TABLE, tuple(JOINTS)), BAG)

    def test_names(self):
        for name in "pqrt":
            self.assertIs(BAG.has_name(name), True)
        for value in cases(self, ODD_VALUES + ["a", "x", "root", "s", ("p", 0), JOINTS[0], ["p"], ("p",)]):
            self.assertIs(BAG.has_name(value), False)
            self.assertIs(EMPTY.has_name(value), False)
            raises(self, UnknownName, {"name": value}, BAG.stem, value)
            raises(self, UnknownName, {"name": value}, BAG.branches, value)

    def test_equality(self):
        self.assertIs(BAG == Bag(Table(["a", "b"], ["x", "y"], BUSH_TABLE.fits()[::-1]), JOINTS), True)
        self.assertIs(BAG != Bag(BUSH_TABLE, JOINTS), False)
        for other in [Bag(BUSH_TABLE, JOINTS[::-1]), Bag(BUSH_TABLE, JOINTS[:3]), EMPTY,
                      Bag(BUSH_TABLE, JOINTS[:3] + [("t", "a", ())]), Bag(BUSH_TABLE, JOINTS[:3] + [("u", "b", ())]),
                      Bag(BUSH_TABLE, JOINTS[:3] + [("t", "b", ("x",))]),
                      Bag(Table(["b", "a"], ["x", "y"], BUSH_TABLE.fits()), JOINTS),
                      Bag(Table(["a", "b"], ["x", "y"], BUSH_TABLE.fits()[1:]), JOINTS)]:
            self.assertIs(BAG == other, False)
            self.assertIs(other == BAG, False)
        for other in [one for one in ODD_VALUES if one is not BAG] + [JOINTS]:
            self.assertIs(BAG == other, False)


class Places(unittest.TestCase):
    def test_example(self):
        for roots in [("x",), ["x"]]:
            self.assertEqual(places_of(BAG, roots), PLACES)
            self.assertEqual([colour_of(BAG, roots, place) for place in PLACES], ["x", "y", "x", "y"])

    def test_the_order_is_that_of_the_bag(self):
        bag = Bag(BUSH_TABLE, [("z", "a", ("x", "x", "y")), ("a", "a", ()), ("b", "b", ("y",))])
        self.assertEqual(places_of(bag, ["y", "x", "y"]), [
            ("root", 0), ("root", 1), ("root", 2), ("z", 0), ("z", 1), ("z", 2), ("b", 0)])
        self.assertEqual([colour_of(bag, ("y", "x", "y"), place) for place in places_of(bag, ("y", "x", "y"))],
                         ["y", "x", "y", "x", "x", "y", "y"])

    def test_without_joints_or_roots(self):
        self.assertEqual(places_of(EMPTY, []), [])
        self.assertEqual(places_of(Bag(BUSH_TABLE, []), ("x", "x")), [("root", 0), ("root", 1)])
        self.assertEqual(places_of(BAG, ()), PLACES[1:])
        self.assertIs(is_place(BAG, (), ("root", 0)), False)
        self.assertIs(is_place(EMPTY, (), ("root", 0)), False)

    def test_what_is_a_place(self):
        for place in PLACES:
            self.assertIs(is_place(BAG, ["x"], place), True)
        odd = [("root", 1), ("p", 2), ("q", 1), ("r", 0), ("t", 0), ("s", 0), ("a", 0), ("p", -1), ("p", True),
               ("p", False), ("root", False), ("p", "0"), ["p", 0], ("p",), ("p", 0, 0), (("p",), 0), "p0",
               ("p", None), ("p", (0,)), ("p", 10 ** 39), (["p"], 0), ("p", [0])]
        for value in cases(self, ODD_VALUES + odd):
            self.assertIs(is_place(BAG, ["x"], value), False)
            raises(self, UnknownName, {"name": value}, colour_of, BAG, ("x",), value)
            raises(self, UnknownName, {"name": value}, fits_there, BAG, ["x"], "p", value)

    def test_what_fits_there(self):
        for name in "pqr":
            for place in PLACES:
                self.assertIs(fits_there(BAG, ["x"], name, place), True)
        self.assertEqual([fits_there(BAG, ("x",), "t", place) for place in PLACES], [False, True, False, True])
        self.assertIs(fits_there(BAG, ("x", "y"), "t", ("root", 1)), True)

    def test_no_names(self):
        for value in cases(self, ODD_VALUES + ["root", "a", "x", ("p", 0)]):
            raises(self, UnknownName, {"name": value}, fits_there, BAG, ["x"], value, ("root", 0))
            raises(self, UnknownName, {"name": value}, fits_there, BAG, ["x"], value, None)

    def test_a_word_that_means_several_things(self):
        self.assertEqual(places_of(SAME, ["x"]), [("root", 0), ("a", 0), ("a", 1), ("a", 2)])
        self.assertEqual([colour_of(SAME, ["x"], place) for place in places_of(SAME, ["x"])], ["x", "a", "a", "x"])
        self.assertIs(fits_there(SAME, ["x"], "a", ("a", 0)), True)
        self.assertIs(fits_there(SAME, ["x"], "x", ("a", 0)), False)
        self.assertIs(fits_there(SAME, ["x"], "a", ("a", 2)), False)
        self.assertEqual(SAME.table(), turned(turned(SAME.table())))


class Rules(unittest.TestCase):
    def test_rules(self):
        for call in [(BAG.table,), (BAG.joints,), (BAG.names,), (BAG.stem, "t"), (BAG.branches, "p"),
                     (BAG.has_name, "p"), (BAG.has_name, [{}]), (places_of, BAG, ["x", "y"]),
                     (is_place, BAG, ["x"], ["p", 0]), (colour_of, BAG, ["x"], ("p", 1)),
                     (fits_there, BAG, ["x"], "t", ("q", 0)), (Bag, BUSH_TABLE, JOINTS[:]), (Bag, T, [])]:
            keeps_the_rules(self, *call)

    def test_no_list_is_kept(self):
        joints = JOINTS[:]
        bag = Bag(BUSH_TABLE, joints)
        joints.clear()
        bag.joints().clear()
        bag.names().clear()
        self.assertEqual(bag, BAG)
        self.assertEqual(bag.names(), ["p", "q", "r", "t"])
