import itertools
import random
import unittest

from kindredbush.assemblies import Assembly, assembly_of
from kindredbush.bags import Bag, fits_there, places_of
from kindredbush.errors import BadAssembly, UnknownName
from kindredbush.groves import Grove
from kindredbush.tables import Table
from tests.support import BAG, BUSH_TABLE, GROVE, ODD_VALUES, OTHER_GROVE, cases, keeps_the_rules, raises

ROWS = [(("root", 0), "p"), (("p", 0), "q"), (("p", 1), "r"), (("q", 0), "t")]
EMPTY_BAG = Bag(BUSH_TABLE, [])
FREE = Table(["k"], ["l"], [("k", "l")])
# The loop of S3.5, with a joint more at a root.
LOOP_BAG = Bag(FREE, [("a", "k", ("l",)), ("b", "k", ("l",)), ("c", "k", ("l",)), ("d", "k", ())])
LOOP_ROWS = [(("a", 0), "b"), (("b", 0), "c"), (("c", 0), "a"), (("root", 0), "d")]


def all_assemblies(bag, roots):
    """All assemblies, by putting the joints at all places in each way."""
    places = places_of(bag, roots)
    for names in itertools.permutations(bag.names()):
        rows = list(zip(places, names))
        if len(places) == len(names) and all(fits_there(bag, roots, name, place) for place, name in rows):
            yield Assembly(bag, roots, rows)


def plain_loops(assembly):
    """S3.5 word by word: go from each place to the one of its owner until one comes back or to a root."""
    places = places_of(assembly.bag(), assembly.roots())
    found = []
    for place in places:
        trail, here = [place], place
        while here[0] != "root":
            here = assembly.place(here[0])
            if here in trail:
                break
            trail.append(here)
        if here == place and place[0] != "root":
            loop = [place] + trail[:0:-1]
            first = min(places.index(one) for one in loop)
            start = loop.index(places[first])
            found.append((first, tuple(loop[start:] + loop[:start])))
    return [loop for _, loop in sorted(set(found))]


class WrongParts(unittest.TestCase):
    def wrong(self, path, roots, rows, bag=BAG):
        raises(self, BadAssembly, {"path": path}, Assembly, bag, roots, rows)

    def test_roots(self):
        for value in cases(self, [one for one in ODD_VALUES if not isinstance(one, (list, tuple))] + ["x", {"x": 1}]):
            self.wrong((0,), value, ROWS)
            self.wrong((0,), value, value)
        for value in cases(self, ODD_VALUES + ["z", "a", "p"]):
            self.wrong((0, 0), [value], ROWS)
            self.wrong((0, 2), ("x", "y", value, value), None)

    def test_no_list(self):
        for value in cases(self, [one for one in ODD_VALUES if not isinstance(one, (list, tuple))] + [dict(ROWS)]):
            self.wrong((1,), ["x"], value)
            self.wrong((1,), [], value, EMPTY_BAG)

    def test_no_rows(self):
        rows = [value for value in ODD_VALUES if not (isinstance(value, tuple) and len(value) == 2)]
        for value in cases(self, rows + [list(ROWS[0]), ROWS[0] + (0,), ROWS[0][:1]]):
            self.wrong((1, 0), ["x"], [value])
            self.wrong((1, 2), ["x"], ROWS[:2] + [value] + ROWS[:2])

    def test_no_places(self):
        odd = [("root", 1), ("root", False), ("p", 2), ("p", True), ("t", 0), ("p", -1), ["p", 0], ("s", 0), "p"]
        for value in cases(self, ODD_VALUES + odd):
            self.wrong((1, 0, 0), ["x"], [(value, "p")])
            self.wrong((1, 0, 0), ["x"], [(value, value)])
            self.wrong((1, 3, 0), ("x",), tuple(ROWS[:3]) + ((value, "t"), None))

    def test_places_twice(self):
        self.wrong((1, 1, 0), ["x"], [ROWS[0], (("root", 0), "q")])
        self.wrong((1, 2, 0), ["x"], [ROWS[1], ROWS[2], (("p", 0), "s")])
        self.wrong((1, 4, 0), ["x"], ROWS + ROWS)

    def test_no_names(self):
        for value in cases(self, ODD_VALUES + ["s", "root", "a", ("p", 0), ["p"]]):
            self.wrong((1, 0, 1), ["x"], [(("root", 0), value)])
            self.wrong((1, 1, 1), ["x"], [ROWS[2], (("root", 0), value), None])

    def test_names_twice(self):
        self.wrong((1, 1, 1), ["x"], [ROWS[0], (("p", 0), "p")])
        self.wrong((1, 2, 1), ["x"], [ROWS[0], ROWS[1], (("p", 1), "q"), (("p", 1), "q")])

    def test_a_joint_that_does_not_fit(self):
        self.wrong((1, 0, 1), ["x"], [(("root", 0), "t")])
        self.wrong((1, 2, 1), ["x"], ROWS[:2] + [(("p", 1), "t"), (("q", 0), "r")])

    def test_what_stands_in_no_row(self):
        for number in range(4):
            self.wrong((), ["x"], ROWS[:number] + ROWS[number + 1:])
        self.wrong((), ["x"], [])
        self.wrong((), ["x", "x"], ROWS)
        self.wrong((), [], ROWS[1:])
        self.wrong((), [], ())
        self.wrong((), ["x"], [], EMPTY_BAG)
        self.wrong((1, 0, 1), ["x"], [(("root", 0), "p")], EMPTY_BAG)


class Told(unittest.TestCase):
    def test_example(self):
        for rows in itertools.permutations(ROWS):
            assembly = Assembly(BAG, ["x"], list(rows))
            self.assertEqual(assembly.rows(), ROWS)
            self.assertEqual(assembly, Assembly(BAG, ("x",), tuple(ROWS)))
        self.assertEqual(assembly.bag(), BAG)
        self.assertEqual(assembly.roots(), ("x",))
        self.assertEqual([assembly.joint(place) for place, _ in ROWS], ["p", "q", "r", "t"])
        self.assertEqual([assembly.place(name) for _, name in ROWS], [place for place, _ in ROWS])
        self.assertEqual(assembly.loops(), [])
        self.assertEqual(assembly.grove(), GROVE)

    def test_the_loop_of_the_example(self):
        assembly = Assembly(LOOP_BAG, ["l"], LOOP_ROWS)
        self.assertEqual(assembly.loops(), [(("a", 0), ("b", 0), ("c", 0))])
        self.assertIsNone(assembly.grove())
        self.assertEqual(assembly.rows(), [LOOP_ROWS[3]] + LOOP_ROWS[:3])

    def test_the_loop_the_other_way(self):
        assembly = Assembly(LOOP_BAG, ["l"], [(("a", 0), "c"), (("c", 0), "b"), (("b", 0), "a"), LOOP_ROWS[3]])
        self.assertEqual(assembly.loops(), [(("a", 0), ("c", 0), ("b", 0))])

    def test_joints_at_their_own_branches(self):
        assembly = Assembly(LOOP_BAG, ["l"], [(("c", 0), "c"), (("b", 0), "b"), (("a", 0), "a"), LOOP_ROWS[3]])
        self.assertEqual(assembly.loops(), [(("a", 0),), (("b", 0),), (("c", 0),)])
        self.assertIsNone(assembly.grove())

    def test_what_hangs_from_a_loop_is_not_in_it(self):
        bag = Bag(FREE, [("a", "k", ()), ("b", "k", ("l", "l")), ("c", "k", ("l",)), ("d", "k", ())])
        assembly = Assembly(bag, ["l"], [(("root", 0), "a"), (("b", 0), "d"), (("b", 1), "c"), (("c", 0), "b")])
        self.assertEqual(assembly.loops(), [(("b", 1), ("c", 0))])

    def test_all_small_assemblies(self):
        bags = [(BAG, ["x"]), (LOOP_BAG, ["l"]), (EMPTY_BAG, []), (Bag(BUSH_TABLE, BAG.joints()[::-1]), ("y",)),
                (Bag(FREE, [("d", "k", ("l", "l")), ("c", "k", ()), ("b", "k", ("l",)), ("a", "k", ("l", "l")),
                            ("e", "k", ())]), []),
                (Bag(BUSH_TABLE, [("k", "a", ()), ("l", "b", ("x",)), ("m", "a", ("y",))]), ("y",))]
        for bag, roots in bags:
            count = 0
            for assembly in all_assemblies(bag, roots):
                count += 1
                self.assertEqual(assembly.loops(), plain_loops(assembly))
                grove = assembly.grove()
                if assembly.loops():
                    self.assertIsNone(grove)
                else:
                    self.assertIs(type(grove), Grove)
                    self.assertEqual(grove.rows(), assembly.rows())
                    self.assertEqual((grove.bag(), grove.roots()), (bag, tuple(roots)))
                    self.assertEqual(assembly_of(grove), assembly)
            self.assertGreater(count, 0)

    def test_the_empty_bag(self):
        assembly = Assembly(EMPTY_BAG, [], [])
        self.assertEqual((assembly.rows(), assembly.loops(), assembly.roots()), ([], [], ()))
        self.assertEqual(assembly.grove(), Grove(EMPTY_BAG, [], []))
        self.assertEqual(assembly_of(Grove(EMPTY_BAG, (), ())), assembly)

    def test_loops_without_roots(self):
        bag = Bag(FREE, [("a", "k", ("l",)), ("b", "k", ("l",))])
        self.assertEqual([one.loops() for one in all_assemblies(bag, [])],
                         [[(("a", 0),), (("b", 0),)], [(("a", 0), ("b", 0))]])

    def test_of_a_grove(self):
        for grove in [GROVE, OTHER_GROVE]:
            assembly = assembly_of(grove)
            self.assertIs(type(assembly), Assembly)
            self.assertEqual(assembly, Assembly(BAG, ["x"], grove.rows()))
            self.assertEqual(assembly.grove(), grove)

    def test_no_place_and_no_name(self):
        assembly = Assembly(LOOP_BAG, ["l"], LOOP_ROWS)
        odd = [("root", 1), ("root", False), ("a", True), ("d", 0), ("a", 1), ["a", 0], "a", "k"]
        for value in cases(self, ODD_VALUES + odd):
            raises(self, UnknownName, {"name": value}, assembly.joint, value)
        for value in cases(self, ODD_VALUES + ["k", "l", "e", "root", ("a", 0), ["a"]]):
            raises(self, UnknownName, {"name": value}, assembly.place, value)

    def test_equality(self):
        assembly = Assembly(LOOP_BAG, ["l"], LOOP_ROWS)
        self.assertIs(assembly == Assembly(LOOP_BAG, ("l",), LOOP_ROWS[::-1]), True)
        self.assertIs(assembly != Assembly(LOOP_BAG, ("l",), LOOP_ROWS[::-1]), False)
        two = Table(["k"], ["l", "m"], [("k", "l"), ("k", "m")])
        over_two = [Assembly(Bag(two, LOOP_BAG.joints()), [root], LOOP_ROWS) for root in ["l", "m"]]
        self.assertIs(over_two[0] == over_two[1], False)
        others = over_two + [Assembly(Bag(FREE, LOOP_BAG.joints()[::-1]), ["l"], LOOP_ROWS),
                             Assembly(LOOP_BAG, ["l"], [(("a", 0), "c"), (("c", 0), "b"), (("b", 0), "a"),
                                                        LOOP_ROWS[3]])]
        for other in others + ODD_VALUES + [LOOP_ROWS, assembly.rows()]:
            self.assertIs(assembly == other, False)
            self.assertIs(other == assembly, False)


class Rules(unittest.TestCase):
    def test_rules(self):
        for one in [Assembly(LOOP_BAG, ["l"], LOOP_ROWS), assembly_of(GROVE)]:
            name = one.bag().names()[0]
            for call in [(one.bag,), (one.roots,), (one.rows,), (one.loops,), (one.grove,), (one.place, name),
                         (one.joint, ("root", 0)), (Assembly, one.bag(), list(one.roots()), one.rows())]:
                keeps_the_rules(self, *call)
        keeps_the_rules(self, assembly_of, GROVE)

    def test_no_list_is_kept(self):
        roots, rows = ["l"], LOOP_ROWS[:]
        assembly = Assembly(LOOP_BAG, roots, rows)
        roots.clear()
        rows.clear()
        assembly.rows().clear()
        assembly.loops().clear()
        self.assertEqual(assembly, Assembly(LOOP_BAG, ["l"], LOOP_ROWS))
        self.assertEqual(len(assembly.loops()), 1)

    def test_great_assemblies(self):
        chance = random.Random(19)
        names = [f"j{number}" for number in range(30)]
        for _ in range(20):
            many = {name: 0 for name in names}
            for _ in range(22):
                many[chance.choice([name for name in names if many[name] < 8])] += 1
            bag = Bag(FREE, [(name, "k", ("l",) * many[name]) for name in names])
            order = chance.sample(names, 30)
            assembly = Assembly(bag, ["l"] * 8, list(zip(places_of(bag, ["l"] * 8), order)))
            self.assertEqual(assembly.loops(), plain_loops(assembly))
            self.assertEqual(assembly.grove() is None, len(assembly.loops()) > 0)
