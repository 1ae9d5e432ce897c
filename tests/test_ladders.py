import itertools
import random
import unittest

from kindredbush.errors import BadLadder, UnknownName
from kindredbush.ladders import Ladder, is_ladder_of, table_of, tied, trimmed, turned_ladder
from kindredbush.tables import Table, turned
from tests.support import BAG, LADDER, ODD_VALUES, T, cases, keeps_the_rules, raises, some_ladder

EMPTY = Ladder([], [], [], [])
KNOTS = ["u", "v", "w"]
# A ladder in which a word is a colour of both sides, and a knot, too.
BOTH = Ladder(["a", "b"], [("a", "b")], [("a", "a"), ("b", "b")], [("a", "b"), ("b", "a")])


def led_pairs(ladder):
    """All pairs of knots of which one is led from the first one to the second one."""
    led = {(knot, knot) for knot in ladder.knots()} | set(ladder.arrows())
    while True:
        more = led | {(a, d) for a, b in led for c, d in led if b == c}
        if more == led:
            return led
        led = more


def is_way(ladder, way, one, other):
    """Whether the numbers of arrows make a way from a knot to another one."""
    here = one
    for number in way:
        start, end = ladder.arrows()[number]
        if start != here:
            return False
        here = end
    return here == other


def plain_pieces(ladder):
    """By joining the lots of the two knots of each arrow."""
    lots = [[knot] for knot in ladder.knots()]
    for one, other in ladder.arrows():
        joined = [lot for lot in lots if one in lot or other in lot]
        lots = [lot for lot in lots if lot not in joined] + [sum(joined, [])]
    order = ladder.knots().index
    return sorted([sorted(lot, key=order) for lot in lots], key=lambda lot: order(lot[0]))


def plain_trimmed(ladder):
    """S2.6 word by word, with dicts of homes that are changed."""
    knots, arrows = ladder.knots(), ladder.arrows()
    stems, places = dict(ladder.stem_homes()), dict(ladder.place_homes())
    number = 0
    while number < len(knots):
        knot = knots[number]
        ends = [arrow for arrow in arrows if knot in arrow]
        has = (knot in stems.values(), knot in places.values())
        if len(ends) <= 1 and (has == (False, False)
                               or (has == (True, False) and [a for a, b in ends] == [knot])
                               or (has == (False, True) and [b for a, b in ends] == [knot])):
            for arrow in ends:
                other = arrow[0] if arrow[1] == knot else arrow[1]
                for homes in [stems, places]:
                    for colour in homes:
                        homes[colour] = other if homes[colour] == knot else homes[colour]
                arrows.remove(arrow)
            knots.remove(knot)
            number = 0
        else:
            number += 1
    return Ladder(knots, arrows, list(stems.items()), list(places.items()))


def colours(ladder):
    return [colour for colour, _ in ladder.stem_homes()], [colour for colour, _ in ladder.place_homes()]


def whole_table(ladder):
    return table_of(ladder, *colours(ladder))


class WrongParts(unittest.TestCase):
    def wrong(self, path, knots=KNOTS, arrows=(), stems=(), places=()):
        raises(self, BadLadder, {"path": path}, Ladder, knots, arrows, stems, places)

    def test_no_lists(self):
        for value in cases(self, [value for value in ODD_VALUES if not isinstance(value, (list, tuple))] + ["uv"]):
            self.wrong((0,), knots=value, arrows=value, stems=value, places=value)
            self.wrong((1,), arrows=value, stems=value, places=value)
            self.wrong((2,), stems=value, places=value)
            self.wrong((3,), places=value)

    def test_knots(self):
        for value in cases(self, ODD_VALUES):
            self.wrong((0, 0), knots=[value], arrows=None)
            self.wrong((0, 2), knots=("u", "v", value, "u"))
        self.wrong((0, 1), knots=["u", "u"])
        self.wrong((0, 2), knots=["u", "v", "u", "v", 1])
        self.wrong((0, 1), knots=["u", "abcdefghijklm"])

    def test_arrows_that_are_no_pairs(self):
        rows = [value for value in ODD_VALUES if not (isinstance(value, tuple) and len(value) == 2)]
        for value in cases(self, rows + [["u", "v"], ("u", "v", "w"), ("u",), "uv"]):
            self.wrong((1, 0), arrows=[value])
            self.wrong((1, 1), arrows=(("u", "v"), value, None), stems=None)

    def test_arrows_to_no_knots(self):
        for value in cases(self, ODD_VALUES + ["x"]):
            self.wrong((1, 0, 0), arrows=[(value, "v")])
            self.wrong((1, 0, 0), arrows=[(value, value)])
            self.wrong((1, 1, 1), arrows=[("u", "w"), ("v", value), (value, "u")])

    def test_arrows_between_knots_that_hang_together(self):
        self.wrong((1, 0), arrows=[("u", "u")])
        self.wrong((1, 1), arrows=[("u", "v"), ("u", "v")])
        self.wrong((1, 1), arrows=[("u", "v"), ("v", "u"), ("x", "y")])
        for one, two, three in itertools.product([("u", "v"), ("v", "u")], [("v", "w"), ("w", "v")],
                                                 [("u", "w"), ("w", "u")]):
            self.wrong((1, 2), arrows=[one, two, three], stems=None)
        self.wrong((1, 3), knots=["a", "b", "c", "d"], arrows=[("a", "b"), ("c", "d"), ("d", "a"), ("b", "c")])
        self.wrong((1, 0, 0), arrows=[("x", "x")])

    def test_homes(self):
        for number, side in [(2, "stems"), (3, "places")]:
            rows = [value for value in ODD_VALUES if not (isinstance(value, tuple) and len(value) == 2)]
            for value in cases(self, rows + [["a", "u"], ("a", "u", "u"), ("a",)]):
                self.wrong((number, 0), **{side: [value]})
                self.wrong((number, 1), **{side: (("a", "u"), value, ("a", "u"))})
            for value in cases(self, ODD_VALUES + ["abcdefghijklm"]):
                self.wrong((number, 0, 0), **{side: [(value, "u")]})
                self.wrong((number, 1, 0), **{side: [("a", "u"), (value, value)]})
            for value in cases(self, ODD_VALUES + ["a", "x"]):
                self.wrong((number, 0, 1), **{side: [("a", value)]})
                self.wrong((number, 1, 1), **{side: [("a", "u"), ("b", value), None]})
            self.wrong((number, 1, 0), **{side: [("a", "u"), ("a", "u")]})
            self.wrong((number, 2, 0), **{side: [("a", "u"), ("b", "v"), ("a", "x")]})

    def test_one_list_ahead_of_the_next(self):
        self.wrong((1, 0), arrows=[()], stems=[()], places=[()])
        self.wrong((2, 0), stems=[()], places=[()])
        self.wrong((2, 1, 0), stems=[("a", "u"), ("a", "u")], places=None)
        self.wrong((3, 0), stems=[("a", "u")], places=[()])


class Told(unittest.TestCase):
    def test_lists(self):
        self.assertEqual(LADDER.knots(), ["u", "v", "w"])
        self.assertEqual(LADDER.arrows(), [("u", "v"), ("u", "w")])
        self.assertEqual(LADDER.stem_homes(), [("red", "u"), ("blue", "v")])
        self.assertEqual(LADDER.place_homes(), [("x", "v"), ("y", "w")])
        other = Ladder(("w", "u"), (("w", "u"),), (("b", "u"), ("a", "w")), (("b", "u"), ("a", "u")))
        self.assertEqual((other.knots(), other.arrows()), (["w", "u"], [("w", "u")]))
        self.assertEqual(other.stem_homes(), [("b", "u"), ("a", "w")])
        self.assertEqual(other.place_homes(), [("b", "u"), ("a", "u")])

    def test_without_knots(self):
        for told in [EMPTY.knots(), EMPTY.arrows(), EMPTY.stem_homes(), EMPTY.place_homes(), EMPTY.pieces()]:
            self.assertEqual(told, [])

    def test_homes(self):
        self.assertEqual((LADDER.stem_home("red"), LADDER.stem_home("blue")), ("u", "v"))
        self.assertEqual((LADDER.place_home("x"), LADDER.place_home("y")), ("v", "w"))
        self.assertEqual((BOTH.stem_home("a"), BOTH.place_home("a")), ("a", "b"))
        for value in cases(self, ODD_VALUES + ["u"]):
            raises(self, UnknownName, {"name": value}, LADDER.stem_home, value)
            raises(self, UnknownName, {"name": value}, LADDER.place_home, value)
        raises(self, UnknownName, {"name": "x"}, LADDER.stem_home, "x")
        raises(self, UnknownName, {"name": "red"}, LADDER.place_home, "red")

    def test_ways_of_the_example(self):
        self.assertEqual(LADDER.way("u", "u"), [])
        self.assertEqual(LADDER.way("u", "v"), [0])
        self.assertEqual(LADDER.way("u", "w"), [1])
        self.assertIsNone(LADDER.way("v", "u"))
        self.assertIsNone(LADDER.way("v", "w"))
        self.assertIs(LADDER.leads("u", "w"), True)
        self.assertIs(LADDER.leads("w", "w"), True)
        self.assertIs(LADDER.leads("w", "u"), False)

    def test_a_long_way(self):
        knots = [f"n{number}" for number in range(32)]
        arrows = [(knots[number], knots[number + 1]) for number in range(31)][::-1]
        ladder = Ladder(knots, arrows, [], [])
        self.assertEqual(ladder.way("n0", "n31"), list(range(31))[::-1])
        self.assertEqual(ladder.way("n3", "n5"), [27, 26])
        self.assertIsNone(ladder.way("n5", "n3"))
        self.assertEqual(ladder.pieces(), [knots])

    def test_all_ways(self):
        chance = random.Random(5)
        for size in list(range(1, 12)) + [32]:
            ladder = some_ladder(chance, size, 0, 0)
            led = led_pairs(ladder)
            for one in ladder.knots():
                for other in ladder.knots():
                    self.assertIs(ladder.leads(one, other), (one, other) in led)
                    way = ladder.way(one, other)
                    if (one, other) in led:
                        self.assertTrue(is_way(ladder, way, one, other))
                    else:
                        self.assertIsNone(way)
            self.assertEqual(ladder.pieces(), plain_pieces(ladder))

    def test_no_knots(self):
        for value in cases(self, ODD_VALUES + ["x", "red"]):
            for method in [LADDER.leads, LADDER.way]:
                raises(self, UnknownName, {"name": value}, method, value, "u")
                raises(self, UnknownName, {"name": value}, method, "u", value)
                raises(self, UnknownName, {"name": value}, method, value, "q")

    def test_pieces(self):
        self.assertEqual(LADDER.pieces(), [["u", "v", "w"]])
        ladder = Ladder(["e", "d", "c", "b", "a"], [("a", "d"), ("b", "e")], [], [])
        self.assertEqual(ladder.pieces(), [["e", "b"], ["d", "a"], ["c"]])

    def test_equality(self):
        parts = [LADDER.knots(), LADDER.arrows(), LADDER.stem_homes(), LADDER.place_homes()]
        self.assertIs(LADDER == Ladder(*[tuple(part) for part in parts]), True)
        for number in range(4):
            others = parts[:]
            others[number] = parts[number][::-1]
            self.assertIs(LADDER == Ladder(*others), False)
            self.assertIs(LADDER != Ladder(*others), True)
        self.assertIs(LADDER == Ladder(parts[0] + ["z"], *parts[1:]), False)
        self.assertIs(LADDER == Ladder(parts[0], parts[1][:1], *parts[2:]), False)
        self.assertIs(LADDER == Ladder(*parts[:2], parts[2][:1], parts[3]), False)
        self.assertIs(LADDER == Ladder(*parts[:3], parts[3][:1]), False)
        for other in [value for value in ODD_VALUES if value is not LADDER] + [parts]:
            self.assertIs(LADDER == other, False)


class Tables(unittest.TestCase):
    def test_example(self):
        table = table_of(LADDER, ["red", "blue"], ["x", "y"])
        self.assertEqual(table, Table(["red", "blue"], ["x", "y"], [("red", "x"), ("red", "y"), ("blue", "x")]))
        self.assertIs(is_ladder_of(LADDER, table), True)

    def test_the_sequence_is_that_of_the_call(self):
        self.assertEqual(table_of(LADDER, ("blue", "red"), ("y", "x")),
                         Table(["blue", "red"], ["y", "x"], [("blue", "x"), ("red", "x"), ("red", "y")]))
        self.assertEqual(table_of(LADDER, ["blue"], ["y"]), Table(["blue"], ["y"], []))
        self.assertEqual(table_of(LADDER, [], ["y"]), Table([], ["y"], []))
        self.assertEqual(table_of(LADDER, [], []), Table([], [], []))
        self.assertEqual(table_of(EMPTY, [], []), Table([], [], []))

    def test_a_word_on_both_sides(self):
        self.assertEqual(table_of(BOTH, ["a", "b"], ["a", "b"]),
                         Table(["a", "b"], ["a", "b"], [("a", "a"), ("a", "b"), ("b", "a")]))

    def test_unknown(self):
        raises(self, UnknownName, {"name": "x"}, table_of, LADDER, ["red", "x", "q"], ["q"])
        raises(self, UnknownName, {"name": "q"}, table_of, LADDER, ["q", "x"], ["x"])
        raises(self, UnknownName, {"name": "red"}, table_of, LADDER, ["red", "blue"], ["y", "red", "q"])
        raises(self, UnknownName, {"name": "u"}, table_of, LADDER, ["u"], [])

    def test_against_what_leads(self):
        chance = random.Random(6)
        for size in [1, 2, 3, 5, 8, 32]:
            ladder = some_ladder(chance, size, 16, 16)
            stems, places = colours(ladder)
            chance.shuffle(stems)
            led = led_pairs(ladder)
            fits = [(s, p) for s in stems for p in places if (ladder.stem_home(s), ladder.place_home(p)) in led]
            table = table_of(ladder, stems, places)
            self.assertEqual(table, Table(stems, places, fits))
            self.assertIs(is_ladder_of(ladder, table), True)
            self.assertIs(is_ladder_of(ladder, table_of(ladder, stems[3:9], places[::-1])), True)

    def test_what_is_no_ladder_of_a_table(self):
        table = Table(["blue", "red"], ["x", "y"], [("red", "x"), ("red", "y"), ("blue", "x")])
        self.assertIs(is_ladder_of(LADDER, table), True)
        for stem, place in [(s, p) for s in ["blue", "red"] for p in ["x", "y"]]:
            fits = [fit for fit in table.fits() if fit != (stem, place)]
            if len(fits) == 3:
                fits.append((stem, place))
            self.assertIs(is_ladder_of(LADDER, Table(["blue", "red"], ["x", "y"], fits)), False)
        self.assertIs(is_ladder_of(LADDER, Table(["q"], [], [])), False)
        self.assertIs(is_ladder_of(LADDER, Table([], ["q"], [])), False)
        self.assertIs(is_ladder_of(LADDER, Table(["x"], [], [])), False)
        self.assertIs(is_ladder_of(LADDER, Table([], ["red"], [])), False)
        self.assertIs(is_ladder_of(LADDER, Table(["red", "q"], ["x"], [("red", "x")])), False)
        self.assertIs(is_ladder_of(EMPTY, Table([], [], [])), True)
        self.assertIs(is_ladder_of(EMPTY, T), False)


class Turned(unittest.TestCase):
    def test_example(self):
        # What S2.6 tells of the ladder of S2.2 before it is trimmed.
        other = turned_ladder(LADDER)
        self.assertEqual(other, Ladder(["u", "v", "w"], [("v", "u"), ("w", "u")], [("x", "v"), ("y", "w")],
                                       [("red", "u"), ("blue", "v")]))
        self.assertEqual(turned_ladder(other), LADDER)

    def test_tables_turn_with_it(self):
        chance = random.Random(7)
        for size in [1, 2, 4, 9]:
            ladder = some_ladder(chance, size, 5, 4)
            other = turned_ladder(ladder)
            self.assertEqual(whole_table(other), turned(whole_table(ladder)))
            self.assertEqual(other.arrows(), [(b, a) for a, b in ladder.arrows()])
            self.assertEqual(other.knots(), ladder.knots())


class Trimmed(unittest.TestCase):
    def test_example(self):
        self.assertEqual(trimmed(LADDER), Ladder(["u", "v"], [("u", "v")], [("red", "u"), ("blue", "v")],
                                                 [("x", "v"), ("y", "u")]))

    def test_knots_without_colours(self):
        self.assertEqual(trimmed(EMPTY), EMPTY)
        self.assertEqual(trimmed(Ladder(["u"], [], [], [])), EMPTY)
        self.assertEqual(trimmed(Ladder(["u", "v", "w"], [("u", "v"), ("w", "v")], [], [])), EMPTY)
        # A knot without colours stays if it has two arrows.
        ladder = Ladder(["u", "v", "w"], [("u", "v"), ("v", "w")], [("a", "u"), ("b", "w")], [("a", "u"), ("b", "w")])
        self.assertEqual(trimmed(ladder), ladder)

    def test_a_knot_without_arrows_keeps_its_colours(self):
        for stems, places in [([("a", "u")], []), ([], [("a", "u")]), ([("a", "u")], [("a", "u")])]:
            ladder = Ladder(["u"], [], stems, places)
            self.assertEqual(trimmed(ladder), ladder)

    def test_directions(self):
        def with_arrow(arrow, stems, places):
            return Ladder(["u", "v"], [arrow], stems + [("s", "v")], places + [("p", "v")])

        self.assertEqual(trimmed(with_arrow(("u", "v"), [("a", "u")], [])),
                         Ladder(["v"], [], [("a", "v"), ("s", "v")], [("p", "v")]))
        self.assertEqual(trimmed(with_arrow(("v", "u"), [], [("a", "u")])),
                         Ladder(["v"], [], [("s", "v")], [("a", "v"), ("p", "v")]))
        for ladder in [with_arrow(("v", "u"), [("a", "u")], []), with_arrow(("u", "v"), [], [("a", "u")]),
                       with_arrow(("u", "v"), [("a", "u")], [("a", "u")]),
                       with_arrow(("v", "u"), [("a", "u")], [("a", "u")])]:
            self.assertEqual(trimmed(ladder), ladder)

    def test_the_first_knot_goes_first(self):
        self.assertEqual(trimmed(Ladder(["u", "v"], [("u", "v")], [("a", "u")], [("b", "v")])),
                         Ladder(["v"], [], [("a", "v")], [("b", "v")]))
        self.assertEqual(trimmed(Ladder(["v", "u"], [("u", "v")], [("a", "u")], [("b", "v")])),
                         Ladder(["u"], [], [("a", "u")], [("b", "u")]))
        # Only w can go at first; then u can, and goes ahead of v, which is behind w.
        self.assertEqual(trimmed(Ladder(["u", "w", "v"], [("u", "v"), ("w", "u")], [("a", "u")], [("b", "v")])),
                         Ladder(["v"], [], [("a", "v")], [("b", "v")]))

    def test_against_the_words(self):
        chance = random.Random(8)
        for size in [1, 2, 3, 4, 6, 10, 20, 32]:
            for many in [0, 1, 2, 4, 16]:
                for _ in range(6):
                    ladder = some_ladder(chance, size, many, chance.randrange(many + 1))
                    smaller = trimmed(ladder)
                    self.assertEqual(smaller, plain_trimmed(ladder))
                    self.assertEqual(whole_table(smaller), whole_table(ladder))
                    self.assertEqual(trimmed(smaller), smaller)


class Tied(unittest.TestCase):
    OTHER = Ladder(["a", "b"], [("b", "a")], [("x", "a"), ("green", "b")], [("red", "a")])

    def test_lists(self):
        self.assertEqual(tied(LADDER, self.OTHER, None), Ladder(
            ["u", "v", "w", "a", "b"], [("u", "v"), ("u", "w"), ("b", "a")],
            [("red", "u"), ("blue", "v"), ("x", "a"), ("green", "b")], [("x", "v"), ("y", "w"), ("red", "a")]))
        self.assertEqual(tied(self.OTHER, LADDER, ("w", "b")), Ladder(
            ["a", "b", "u", "v", "w"], [("b", "a"), ("u", "v"), ("u", "w"), ("w", "b")],
            [("x", "a"), ("green", "b"), ("red", "u"), ("blue", "v")], [("red", "a"), ("x", "v"), ("y", "w")]))
        self.assertEqual(tied(LADDER, EMPTY, None), LADDER)
        self.assertEqual(tied(EMPTY, LADDER, None), LADDER)

    def test_what_fits_then(self):
        chance = random.Random(9)
        for _ in range(20):
            one = some_ladder(chance, 4, 4, 4)
            knots = [f"m{number}" for number in range(4)]
            second = some_ladder(chance, 4, 4, 4)
            other = Ladder([k.replace("n", "m") for k in second.knots()],
                           [(a.replace("n", "m"), b.replace("n", "m")) for a, b in second.arrows()],
                           [(c.replace("s", "t"), k.replace("n", "m")) for c, k in second.stem_homes()],
                           [(c.replace("p", "q"), k.replace("n", "m")) for c, k in second.place_homes()])
            old = set(whole_table(one).fits()) | set(whole_table(other).fits())
            self.assertEqual(set(whole_table(tied(one, other, None)).fits()), old)
            for u in one.knots():
                v = chance.choice(knots)
                new = {(s, p) for s, k in one.stem_homes() if one.leads(k, u)
                       for p, m in other.place_homes() if other.leads(v, m)}
                self.assertEqual(set(whole_table(tied(one, other, (u, v))).fits()), old | new)
                new = {(s, p) for s, k in other.stem_homes() if other.leads(k, v)
                       for p, m in one.place_homes() if one.leads(u, m)}
                self.assertEqual(set(whole_table(tied(one, other, (v, u))).fits()), old | new)

    def test_faults(self):
        for value in cases(self, [one for one in ODD_VALUES + [["w", "b"], ("w",), ("w", "b", "a")]
                                  if one is not None and not (isinstance(one, tuple) and len(one) == 2)]):
            raises(self, BadLadder, {"path": (1, 3)}, tied, LADDER, self.OTHER, value)
        for value in cases(self, ODD_VALUES + ["q", "red"]):
            raises(self, BadLadder, {"path": (1, 3, 0)}, tied, LADDER, self.OTHER, (value, value))
            raises(self, BadLadder, {"path": (1, 3, 1)}, tied, LADDER, self.OTHER, ("w", value))
        raises(self, BadLadder, {"path": (1, 3)}, tied, LADDER, self.OTHER, ("v", "w"))
        raises(self, BadLadder, {"path": (1, 3)}, tied, LADDER, self.OTHER, ("a", "b"))
        raises(self, BadLadder, {"path": (1, 3)}, tied, LADDER, self.OTHER, ("a", "a"))

    def test_what_both_have(self):
        knot = Ladder(["a", "v"], [], [("red", "a")], [("x", "a")])
        raises(self, BadLadder, {"path": (0, 4)}, tied, LADDER, knot, ("u", "u"))
        stem = Ladder(["a"], [], [("green", "a"), ("blue", "a")], [("x", "a")])
        raises(self, BadLadder, {"path": (2, 3, 0)}, tied, LADDER, stem, None)
        raises(self, BadLadder, {"path": (1, 2)}, tied, LADDER, stem, ("w", "u"))
        place = Ladder(["a"], [], [("green", "a")], [("y", "a")])
        raises(self, BadLadder, {"path": (3, 2, 0)}, tied, LADDER, place, ("a", "u"))
        raises(self, BadLadder, {"path": (0, 3)}, tied, LADDER, LADDER, None)


class Rules(unittest.TestCase):
    def test_rules(self):
        for call in [(LADDER.knots,), (LADDER.arrows,), (LADDER.stem_homes,), (LADDER.place_homes,),
                     (LADDER.pieces,), (LADDER.way, "u", "w"), (LADDER.way, "u", "u"), (LADDER.way, "v", "u"),
                     (LADDER.stem_home, "red"), (LADDER.place_home, "x"), (LADDER.leads, "u", "v"),
                     (table_of, LADDER, ["red"], ["y", "x"]), (is_ladder_of, LADDER, T), (turned_ladder, LADDER),
                     (trimmed, LADDER), (tied, LADDER, Tied.OTHER, ("a", "u")),
                     (Ladder, ["u", "v"], [("u", "v")], [("a", "u")], [("a", "v")])]:
            keeps_the_rules(self, *call)

    def test_no_list_is_kept(self):
        parts = [["u", "v"], [("u", "v")], [("a", "u")], [("a", "v")]]
        ladder = Ladder(*parts)
        for part in parts:
            part.clear()
        self.assertEqual(ladder, Ladder(["u", "v"], [("u", "v")], [("a", "u")], [("a", "v")]))
        for told in [ladder.knots(), ladder.arrows(), ladder.stem_homes(), ladder.place_homes(), ladder.pieces()[0],
                     ladder.way("u", "v")]:
            told.clear()
        self.assertEqual(ladder.pieces(), [["u", "v"]])
        self.assertEqual(ladder.way("u", "v"), [0])
        self.assertNotEqual(ladder, BAG)
