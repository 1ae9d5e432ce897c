import itertools
import math
import random
import unittest

from kindredbush.bags import Bag, colour_of, places_of
from kindredbush.errors import UnknownName
from kindredbush.flats import adapters, count_flats, first_flat, flat_places, flat_rows, is_flat, knot_at
from kindredbush.flows import flows
from kindredbush.groves import Grove
from kindredbush.ladders import Ladder, table_of
from tests.support import ODD_VALUES, cases, keeps_the_rules, nested, raises
from tests.test_flows import BAG, EMPTY_BAG, F, G, LADDER, some_cases
from tests.test_groves import all_groves, walk_of

A = (0, 0)
FLAT_F = ((A, ("x", ("y", ("z",)))),)
FLAT_G = (("y", ("x", (A, ("z",)))),)
# Two adapters of one arrow and one of another: three knots in a row, and arrows that come together.
ROW = Ladder(["u", "v", "w"], [("v", "w"), ("u", "v")], [("a", "u"), ("b", "v"), ("c", "w")],
             [("p", "u"), ("q", "v"), ("r", "w")])
ROW_BAG = Bag(table_of(ROW, ["a", "b", "c"], ["p", "q", "r"]),
              [("k", "a", ("r",)), ("l", "a", ("q",)), ("m", "b", ()), ("n", "c", ("p",))])
ROW_ROOTS = ("r",)
ROW_GROVES = all_groves(ROW_BAG, ROW_ROOTS)


def good_cases(seed, many, joints, most):
    """Ladders, bags, roots and their groves, which exist, with up to so many flat places."""
    for ladder, bag, roots in some_cases(seed, many, joints):
        if min(flows(ladder, bag, roots) + [0]) >= 0 and sum(flows(ladder, bag, roots)) + joints <= most:
            groves = all_groves(bag, roots)
            if groves:
                yield ladder, bag, roots, groves


def plain_adapters(ladder, bag, roots):
    return [(k, i) for k, flow in enumerate(flows(ladder, bag, roots)) for i in range(flow)]


def plain_places(ladder, bag, roots):
    return places_of(bag, roots) + [(adapter, 0) for adapter in plain_adapters(ladder, bag, roots)]


def plain_knot(ladder, bag, roots, place):
    if isinstance(place[0], tuple):
        return ladder.arrows()[place[0][0]][0]
    return ladder.place_home(colour_of(bag, roots, place))


def plain_home(ladder, bag, holder):
    return ladder.arrows()[holder[0]][1] if isinstance(holder, tuple) else ladder.stem_home(bag.stem(holder))


def branches(bag, holder):
    return 1 if isinstance(holder, tuple) else len(bag.branches(holder))


def all_flats(ladder, bag, roots):
    """All flat groves, by putting joints and adapters at all flat places of their knots in each way."""
    places = plain_places(ladder, bag, roots)
    holders = bag.names() + plain_adapters(ladder, bag, roots)
    knots = [plain_knot(ladder, bag, roots, place) for place in places]
    homes = [plain_home(ladder, bag, holder) for holder in holders]
    found = []
    if sorted(knots) != sorted(homes):
        return found
    lots = [[holder for holder, home in zip(holders, homes) if home == knot] for knot in sorted(set(knots))]
    spots = [[place for place, home in zip(places, knots) if home == knot] for knot in sorted(set(knots))]
    for orders in itertools.product(*[list(itertools.permutations(lot)) for lot in lots]):
        at = {place: holder for lot, order in zip(spots, orders) for place, holder in zip(lot, order)}
        try:
            flat = tuple(flat_bush(bag, at, ("root", n)) for n in range(len(roots)))
        except RecursionError:
            continue
        if sum(len(walk_of(bush)) for bush in flat) == len(holders):
            found.append(flat)
    return found


def flat_bush(bag, at, place, depth=0):
    if depth > len(at):
        raise RecursionError
    holder = at[place]
    return (holder, *[flat_bush(bag, at, (holder, n), depth + 1) for n in range(branches(bag, holder))])


def plain_seen(bush):
    """S5.4: each adapter is replaced by what hangs at its branch."""
    parts = tuple(plain_seen(part) for part in bush[1:])
    return parts[0] if isinstance(bush[0], tuple) else (bush[0], *parts)


def plain_rows(flat):
    """What stands at the flat places, in the order of a walk."""
    found = []

    def go(place, bush):
        found.append((place, bush[0]))
        for number, part in enumerate(bush[1:]):
            go((bush[0], number), part)

    for number, bush in enumerate(flat):
        go(("root", number), bush)
    return found


def ascends(ladder, bag, flat):
    """Whether for each arrow the numbers ascend in the order of the walk of the joints that stand through it."""
    spots = {holder: place for place, holder in plain_rows(flat)}
    numbers = [[] for _ in ladder.arrows()]
    for place, holder in plain_rows(flat):
        if not isinstance(holder, tuple):
            while isinstance(spots[holder][0], tuple):
                holder = spots[holder][0]
                numbers[holder[0]].append(holder[1])
    return all(row == sorted(row) for row in numbers)


class Adapters(unittest.TestCase):
    def test_word_by_word(self):
        for ladder, bag, roots, _ in good_cases(40, 150, 5, 12):
            self.assertEqual(adapters(ladder, bag, roots), plain_adapters(ladder, bag, roots))
            self.assertEqual(flat_places(ladder, bag, list(roots)), plain_places(ladder, bag, roots))
            for place in flat_places(ladder, bag, roots):
                self.assertEqual(knot_at(ladder, bag, roots, place), plain_knot(ladder, bag, roots, place))

    def test_examples(self):
        self.assertEqual(adapters(LADDER, BAG, ["q"]), [A])
        self.assertEqual(flat_places(LADDER, BAG, ["q"]), [("root", 0), ("x", 0), ("y", 0), (A, 0)])
        self.assertEqual([knot_at(LADDER, BAG, ["q"], place) for place in flat_places(LADDER, BAG, ["q"])],
                         ["v", "v", "u", "u"])
        self.assertEqual(flows(ROW, ROW_BAG, ROW_ROOTS), [1, 1])
        self.assertEqual(adapters(ROW, ROW_BAG, ("r", "r")), [(0, 0), (1, 0)])
        self.assertEqual(adapters(ROW, ROW_BAG, ()), [(0, 0), (1, 0)])

    def test_several_adapters_of_one_arrow(self):
        bag = Bag(ROW_BAG.table(), [("k", "a", ()), ("l", "a", ()), ("m", "b", ())])
        self.assertEqual(adapters(ROW, bag, ("r", "r", "r")), [(0, 0), (0, 1), (0, 2), (1, 0), (1, 1)])
        self.assertEqual(flat_places(ROW, bag, ("r", "r", "q"))[3:], [((0, 0), 0), ((0, 1), 0), ((1, 0), 0), ((1, 1), 0)])
        self.assertEqual(count_flats(ROW, bag, ("r", "r", "r")), 12)

    def test_no_adapters(self):
        self.assertEqual(adapters(LADDER, EMPTY_BAG, []), [])
        self.assertEqual(flat_places(LADDER, EMPTY_BAG, []), [])
        self.assertEqual(count_flats(LADDER, EMPTY_BAG, []), 1)
        bag = Bag(BAG.table(), [("x", "a", ())])
        self.assertEqual(adapters(LADDER, bag, ["p"]), [])
        self.assertEqual(flat_places(LADDER, bag, ["p"]), [("root", 0)])
        self.assertEqual(first_flat(LADDER, Grove(bag, ["p"], [("x",)])), (("x",),))

    def test_no_flat_place(self):
        odd = [(A, 1), (A, False), ((0, False), 0), ((False, 0), 0), ((0, 1), 0), ((1, 0), 0), ([0, 0], 0), [A, 0], A,
               ((0, 0, 0), 0), (A, -1), ((0, -1), 0), ((-1, 0), 0), ("z", 0), ("x", 1), ("x", True), ("root", 1), (0, 0),
               ((0, None), 0), (A, None), (A,), (A, 0, 0), (("x", 0), 0), ((A, 0), 0), ("adapter", 0)]
        for value in cases(self, ODD_VALUES + odd):
            raises(self, UnknownName, {"name": value}, knot_at, LADDER, BAG, ["q"], value)
            raises(self, UnknownName, {"name": value}, knot_at, LADDER, EMPTY_BAG, (), value)


class IsFlat(unittest.TestCase):
    def test_all(self):
        """Among all trees of joints and adapters at the places of any knots, the flat groves alone."""
        met = 0
        for ladder, bag, roots, groves in good_cases(41, 120, 4, 6):
            flats = all_flats(ladder, bag, roots)
            self.assertEqual(len(flats), len(groves) * count_flats(ladder, bag, roots))
            holders = bag.names() + plain_adapters(ladder, bag, roots)
            places = plain_places(ladder, bag, roots)
            for order in itertools.permutations(holders):
                try:
                    at = dict(zip(places, order))
                    flat = tuple(flat_bush(bag, at, ("root", n)) for n in range(len(roots)))
                except RecursionError:
                    continue
                met += flat in flats
                self.assertIs(is_flat(ladder, bag, roots, flat), flat in flats)
        self.assertGreater(met, 100)

    def test_examples(self):
        for flat in (FLAT_F, FLAT_G):
            self.assertIs(is_flat(LADDER, BAG, ["q"], flat), True)
        self.assertCountEqual(all_flats(LADDER, BAG, ["q"]), [FLAT_F, FLAT_G])
        self.assertIs(is_flat(LADDER, EMPTY_BAG, [], ()), True)

    def test_anything(self):
        self.assertIs(is_flat(LADDER, BAG, ["q"], FLAT_F[0]), False)
        odd = [list(FLAT_F), FLAT_F + FLAT_F, (("y", ("x", (A, ("x", ("y", ("z",)))))),), (("x", ("y", ("z",))),), ((A,),), ((A, ()),), ((),),
               ((A, ("x", ("y", ("z",))), ("z",)),), ((A, ("x", ("y",))),), ((A, ("x", ("y", ("z", ("z",))))),),
               ((A, ("x", ("y", ("x", ("z",))))),), ((A, (A, ("x", ("y", ("z",))))),), ((A, ("x", (A, ("z",)))),),
               (("y", ("x", ("z",))),), (((0, False), ("x", ("y", ("z",)))),), (((False, 0), ("x", ("y", ("z",)))),),
               (((0, 1), ("x", ("y", ("z",)))),), (((1, 0), ("x", ("y", ("z",)))),), (([0, 0], ("x", ("y", ("z",)))),),
               ([A, ("x", ("y", ("z",)))],), ((A, ["x", ("y", ("z",))]),), ((A, ("x", ("y", "z"))),), (("y", ("z",)),),
               ((A, ("x", ("y", (None,)))),), ((A, ("x", ("y", ([],)))),), (((0, 0, 0), ("x", ("y", ("z",)))),),
               F, F.bushes(), tuple(F.bushes()), (nested(300),), nested(299), {"x": FLAT_F}]
        for value in cases(self, ODD_VALUES + odd):
            self.assertIs(is_flat(LADDER, BAG, ["q"], value), False)
            self.assertIs(is_flat(LADDER, BAG, ["q"], (value,)), False)
            self.assertIs(is_flat(LADDER, BAG, ["q"], ((A, value),)), False)
            self.assertIs(is_flat(LADDER, BAG, ["q"], ((A, ("x", ("y", value))),)), False)
            self.assertIs(is_flat(LADDER, BAG, ["q"], ((value, ("x", ("y", ("z",)))),)), False)
            self.assertIs(is_flat(LADDER, BAG, ["q", "q"], (FLAT_F[0], value)), False)
            if value != ():
                self.assertIs(is_flat(LADDER, EMPTY_BAG, [], value), False)

    def test_the_number_of_roots(self):
        self.assertIs(is_flat(LADDER, BAG, ["q", "q"], FLAT_F), False)
        self.assertIs(is_flat(LADDER, BAG, [], ()), False)
        self.assertIs(is_flat(LADDER, EMPTY_BAG, [], []), False)


class First(unittest.TestCase):
    def test_word_by_word(self):
        met = 0
        for ladder, bag, roots, groves in good_cases(42, 200, 4, 8):
            flats = all_flats(ladder, bag, roots)
            for grove in groves:
                same = [flat for flat in flats if [plain_seen(bush) for bush in flat] == grove.bushes()]
                self.assertEqual(len(same), math.prod(map(math.factorial, flows(ladder, bag, roots))))
                self.assertEqual(count_flats(ladder, bag, roots), len(same))
                self.assertEqual([first_flat(ladder, grove)], [flat for flat in same if ascends(ladder, bag, flat)])
                met += len(same) > 1
        self.assertGreater(met, 20)

    def test_examples(self):
        self.assertEqual(first_flat(LADDER, F), FLAT_F)
        self.assertEqual(first_flat(LADDER, G), FLAT_G)
        self.assertEqual(count_flats(LADDER, BAG, ["q"]), 1)

    def test_chains(self):
        """An adapter of the last arrow of the way stands at the place, and at its branch one of the last but one."""
        grove = Grove(ROW_BAG, ROW_ROOTS, [("k", ("n", ("l", ("m",))))])
        self.assertIn(grove, ROW_GROVES)
        self.assertEqual(first_flat(ROW, grove), (((0, 0), ((1, 0), ("k", ("n", ("l", ("m",)))))),))

    def test_numbers_ascend_in_the_walk(self):
        bag = Bag(BAG.table(), [("i", "a", ()), ("j", "a", ()), ("k", "a", ("q", "q")), ("l", "b", ())])
        grove = Grove(bag, ["q", "q"], [("j",), ("k", ("l",), ("i",))])
        self.assertEqual(first_flat(LADDER, grove), (((0, 0), ("j",)), ((0, 1), ("k", ("l",), ((0, 2), ("i",))))))

    def test_count_without_a_grove(self):
        bag = Bag(BAG.table(), [(f"j{n}", "a", ()) for n in range(30)])
        self.assertEqual(count_flats(LADDER, bag, ["q"]), math.factorial(30))
        self.assertEqual(count_flats(LADDER, bag, ["p"] * 8), math.factorial(22))
        self.assertEqual(all_groves(Bag(BAG.table(), [("j", "a", ("q",))]), ["q"]), [])
        self.assertEqual(count_flats(LADDER, Bag(BAG.table(), [("j", "a", ("q",)), ("k", "a", ())]), ["q"]), 2)


class Rows(unittest.TestCase):
    def test_word_by_word(self):
        for ladder, bag, roots, groves in good_cases(43, 100, 5, 12):
            flat = first_flat(ladder, groves[-1])
            rows = dict(plain_rows(flat))
            self.assertEqual(flat_rows(ladder, bag, roots, flat),
                             [(place, rows[place]) for place in plain_places(ladder, bag, roots)])

    def test_examples(self):
        self.assertEqual(flat_rows(LADDER, BAG, ["q"], FLAT_F),
                         [(("root", 0), A), (("x", 0), "y"), (("y", 0), "z"), ((A, 0), "x")])
        self.assertEqual(flat_rows(LADDER, BAG, ["q"], FLAT_G),
                         [(("root", 0), "y"), (("x", 0), A), (("y", 0), "x"), ((A, 0), "z")])
        self.assertEqual(flat_rows(LADDER, EMPTY_BAG, [], ()), [])


class Rules(unittest.TestCase):
    def test_rules(self):
        for call in [(adapters, LADDER, BAG, ["q"]), (flat_places, LADDER, BAG, ["q"]), (first_flat, LADDER, F),
                     (knot_at, LADDER, BAG, ["q"], (A, 0)), (is_flat, LADDER, BAG, ["q"], FLAT_F),
                     (is_flat, LADDER, BAG, ["q"], [[FLAT_F]]), (count_flats, LADDER, BAG, ["q"]),
                     (flat_rows, LADDER, BAG, ["q"], FLAT_G), (flat_rows, LADDER, EMPTY_BAG, [], ())]:
            keeps_the_rules(self, *call)

    def test_240_adapters(self):
        """30 joints in a chain, each of which stands through eight arrows of a ladder of 32 knots."""
        ladder, grove = great_case()
        bag, roots = grove.bag(), grove.roots()
        self.assertEqual(len(adapters(ladder, bag, roots)), 240)
        self.assertEqual(len(flat_places(ladder, bag, roots)), 270)
        flat = first_flat(ladder, grove)
        self.assertIs(is_flat(ladder, bag, roots, flat), True)
        self.assertTrue(ascends(ladder, bag, flat))
        self.assertEqual([plain_seen(bush) for bush in flat], grove.bushes())
        self.assertEqual(flat_rows(ladder, bag, roots, flat),
                         sorted(plain_rows(flat), key=lambda row: flat_places(ladder, bag, roots).index(row[0])))
        for place in flat_places(ladder, bag, roots):
            self.assertEqual(knot_at(ladder, bag, roots, place), plain_knot(ladder, bag, roots, place))


def great_case():
    chance = random.Random(50)
    knots = [f"n{number}" for number in range(32)]
    starts = [chance.randrange(24) for _ in range(8)]
    ladder = Ladder(knots, list(zip(knots, knots[1:])), [(f"s{n}", knots[at]) for n, at in enumerate(starts)],
                    [(f"p{n}", knots[at + 8]) for n, at in enumerate(starts)])
    table = table_of(ladder, [f"s{n}" for n in range(8)], [f"p{n}" for n in range(8)])
    colours = [chance.randrange(8) for _ in range(30)]
    joints = [(f"j{n}", f"s{colours[n]}", (f"p{colours[n + 1]}",) if n < 29 else ()) for n in range(30)]
    bush = ("j29",)
    for number in range(28, -1, -1):
        bush = (f"j{number}", bush)
    chance.shuffle(joints)
    return ladder, Grove(Bag(table, joints), [f"p{colours[0]}"], [bush])
