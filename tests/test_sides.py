import random
import unittest

from kindredbush.sides import alone, crossing_of, nested_order, pendants, pieces_of, twin_lots, twins
from kindredbush.tables import Table, turned
from tests.support import RING_TABLE, T, all_tables, keeps_the_rules, some_table

# The second table of S1.2.
LONE = Table(["a", "b", "c"], ["a"], [("a", "a"), ("c", "a")])
EMPTY = Table([], [], [])
BARE = Table(["b", "a"], ["y", "b", "x"], [])
FULL = Table(["b", "a"], ["y", "x"], [("b", "y"), ("b", "x"), ("a", "y"), ("a", "x")])


def sides(table):
    """The two sides with their colours and the dict of the fits of each colour."""
    fits = table.fits()
    return [("stem", table.stems(), {one: [p for p in table.places() if (one, p) in fits] for one in table.stems()}),
            ("place", table.places(), {one: [s for s in table.stems() if (s, one) in fits] for one in table.places()})]


def plain_alone(table):
    return [(side, one) for side, colours, fits in sides(table) for one in colours if len(fits[one]) == 0]


def plain_pendants(table):
    return [(side, one, fits[one][0]) for side, colours, fits in sides(table) for one in colours
            if len(fits[one]) == 1]


def plain_twins(table):
    return [(side, colours[i], colours[j]) for side, colours, fits in sides(table)
            for i in range(len(colours)) for j in range(len(colours))
            if i < j and set(fits[colours[i]]) == set(fits[colours[j]])]


def plain_lots(table):
    found = []
    for side, colours, fits in sides(table):
        for number, one in enumerate(colours):
            if all(fits[one] != fits[other] for other in colours[:number]):
                found.append((side, tuple(other for other in colours if fits[other] == fits[one])))
    return found


def plain_pieces(table):
    """By making lots of one colour each, and joining the lots of each fit."""
    lots = [[("stem", one)] for one in table.stems()] + [[("place", one)] for one in table.places()]
    for stem, place in table.fits():
        joined = [lot for lot in lots if ("stem", stem) in lot or ("place", place) in lot]
        lots = [lot for lot in lots if lot not in joined] + [sum(joined, [])]
    pieces = []
    for lot in lots:
        pieces.append((tuple(one for one in table.stems() if ("stem", one) in lot),
                       tuple(one for one in table.places() if ("place", one) in lot)))
    return sorted(pieces, key=lambda piece: (
        piece[0] == (), table.stems().index(piece[0][0]) if piece[0] else table.places().index(piece[1][0])))


def plain_crossings(table):
    """All crossings, in the order of the document."""
    fits = table.fits()
    stems, places = table.stems(), table.places()
    return [(s, p, t, q) for i, s in enumerate(stems) for t in stems[i + 1:] for p in places for q in places
            if (s, p) in fits and (s, q) not in fits and (t, q) in fits and (t, p) not in fits]


class Examples(unittest.TestCase):
    def test_t(self):
        self.assertEqual(alone(T), [])
        self.assertEqual(pendants(T), [("place", "x", "a"), ("place", "z", "b")])
        self.assertEqual(twins(T), [])
        self.assertEqual(twin_lots(T), [("stem", ("a",)), ("stem", ("b",)), ("place", ("x",)), ("place", ("y",)),
                                        ("place", ("z",))])
        self.assertEqual(pieces_of(T), [(("a", "b"), ("x", "y", "z"))])
        self.assertEqual(crossing_of(T), ("a", "x", "b", "z"))
        self.assertEqual(plain_crossings(T), [("a", "x", "b", "z")])
        self.assertEqual(crossing_of(turned(T)), ("x", "a", "z", "b"))
        self.assertIsNone(nested_order(T))
        self.assertIsNone(nested_order(turned(T)))

    def test_a_word_on_both_sides(self):
        self.assertEqual(alone(LONE), [("stem", "b")])
        self.assertEqual(pendants(LONE), [("stem", "a", "a"), ("stem", "c", "a")])
        self.assertEqual(twins(LONE), [("stem", "a", "c")])
        self.assertEqual(twin_lots(LONE), [("stem", ("a", "c")), ("stem", ("b",)), ("place", ("a",))])
        self.assertEqual(pieces_of(LONE), [(("a", "c"), ("a",)), (("b",), ())])
        self.assertIsNone(crossing_of(LONE))
        self.assertEqual(nested_order(LONE), ("b", "a", "c"))

    def test_no_colours(self):
        for function in [alone, pendants, twins, twin_lots, pieces_of]:
            self.assertEqual(function(EMPTY), [])
        self.assertIsNone(crossing_of(EMPTY))
        self.assertEqual(nested_order(EMPTY), ())

    def test_colours_alone(self):
        self.assertEqual(alone(BARE), [("stem", "b"), ("stem", "a"), ("place", "y"), ("place", "b"), ("place", "x")])
        self.assertEqual(pendants(BARE), [])
        self.assertEqual(twins(BARE), [("stem", "b", "a"), ("place", "y", "b"), ("place", "y", "x"),
                                       ("place", "b", "x")])
        self.assertEqual(twin_lots(BARE), [("stem", ("b", "a")), ("place", ("y", "b", "x"))])
        self.assertEqual(pieces_of(BARE), [(("b",), ()), (("a",), ()), ((), ("y",)), ((), ("b",)), ((), ("x",))])
        self.assertEqual(nested_order(BARE), ("b", "a"))

    def test_one_side(self):
        self.assertEqual(pieces_of(Table([], ["b", "a"], [])), [((), ("b",)), ((), ("a",))])
        self.assertEqual(nested_order(Table([], ["a"], [])), ())
        self.assertEqual(nested_order(Table(["b", "a"], [], [])), ("b", "a"))

    def test_all_fit(self):
        self.assertEqual(alone(FULL), [])
        self.assertEqual(twins(FULL), [("stem", "b", "a"), ("place", "y", "x")])
        self.assertEqual(pieces_of(FULL), [(("b", "a"), ("y", "x"))])
        self.assertEqual(nested_order(FULL), ("b", "a"))

    def test_pieces_in_their_order(self):
        table = Table(["c", "a", "d", "b"], ["y", "n", "x", "m"], [("b", "y"), ("c", "x"), ("a", "y")])
        self.assertEqual(pieces_of(table), [(("c",), ("x",)), (("a", "b"), ("y",)), (("d",), ()),
                                            ((), ("n",)), ((), ("m",))])

    def test_a_long_piece(self):
        pairs = [(f"s{n}", f"p{n}") for n in range(24)] + [(f"s{n + 1}", f"p{n}") for n in range(23)]
        stems = [f"s{n}" for n in range(0, 24, 2)] + [f"s{n}" for n in range(1, 24, 2)]
        places = [f"p{n}" for n in range(23, -1, -1)]
        self.assertEqual(pieces_of(Table(stems, places, pairs)), [(tuple(stems), tuple(places))])

    def test_the_first_crossing(self):
        self.assertEqual(crossing_of(RING_TABLE), ("a", "x", "b", "z"))
        table = Table(["a", "b", "c"], ["x", "y", "z"], [("a", "y"), ("a", "z"), ("b", "z"), ("c", "x"), ("c", "z")])
        self.assertEqual(crossing_of(table), ("a", "y", "c", "x"))

    def test_nested_order_keeps_the_list_where_numbers_are_equal(self):
        table = Table(["d", "c", "b", "a"], ["x", "y"], [("d", "x"), ("d", "y"), ("c", "y"), ("a", "y")])
        self.assertEqual(nested_order(table), ("b", "c", "a", "d"))


class Against(unittest.TestCase):
    def check(self, table):
        self.assertEqual(alone(table), plain_alone(table))
        self.assertEqual(pendants(table), plain_pendants(table))
        self.assertEqual(twins(table), plain_twins(table))
        self.assertEqual(twin_lots(table), plain_lots(table))
        self.assertEqual(pieces_of(table), plain_pieces(table))
        crossings = plain_crossings(table)
        self.assertEqual(crossing_of(table), crossings[0] if crossings else None)
        if crossings:
            self.assertIsNone(nested_order(table))
        else:
            numbers = {stem: len([1 for one, place in table.fits() if one == stem]) for stem in table.stems()}
            order = tuple(sorted(table.stems(), key=lambda stem: (numbers[stem], table.stems().index(stem))))
            self.assertEqual(nested_order(table), order)

    def test_all_small_tables(self):
        for stems in [[], ["a"], ["b", "a"], ["b", "a", "c"]]:
            for places in [[], ["a"], ["x", "a"], ["x", "c", "a"]]:
                for table in all_tables(stems, places):
                    self.check(table)

    def test_some_greater_tables(self):
        chance = random.Random(2)
        for part in [0.05, 0.1, 0.3, 0.9]:
            for _ in range(5):
                stems = chance.sample([f"c{n}" for n in range(40)], chance.randrange(12, 25))
                places = chance.sample([f"c{n}" for n in range(40)], chance.randrange(12, 25))
                self.check(some_table(chance, stems, places, part))

    def test_nested_tables_of_24(self):
        chance = random.Random(3)
        stems = [f"s{n}" for n in range(24)]
        places = [f"p{n}" for n in range(24)]
        reach = {stem: chance.randrange(25) for stem in stems}
        chance.shuffle(stems)
        table = Table(stems, places, [(s, p) for s in stems for n, p in enumerate(places) if n < reach[s]])
        self.check(table)
        self.assertIsNotNone(nested_order(table))
        self.assertIsNotNone(nested_order(turned(table)))


class Rules(unittest.TestCase):
    def test_rules(self):
        for function in [alone, pendants, twins, twin_lots, pieces_of, crossing_of, nested_order]:
            for table in [T, LONE, EMPTY, BARE, FULL]:
                keeps_the_rules(self, function, table)
