import itertools
import random
import unittest

from kindredbush.bars import bar_of, dominoes_of, judge_bar, rings_of
from kindredbush.peelings import peeling_of
from kindredbush.tables import Table, turned, with_fit, without_fit
from tests.support import (DOMINO_TABLE, ODD_VALUES, RING_FITS, RING_TABLE, T, all_tables, cases, keeps_the_rules,
                           some_table)

EMPTY = Table([], [], [])
RING = ("a", "x", "b", "z", "c", "y")
DOMINO = ("a", "p", "b", "q", "c", "w")


def ring_table(size):
    """A table that is one ring, with the colours in some order, and words that stand on both sides."""
    colours = [f"c{number}" for number in range(size)]
    fits = [(colours[number], colours[number]) for number in range(size)]
    fits += [(colours[number], colours[number - 1]) for number in range(size)]
    return Table(colours, colours[::-1], fits)


def is_plain_ring(table, ring):
    """S2.5 word by word."""
    size = len(ring) // 2
    stems, places = ring[0::2], ring[1::2]
    if size < 3 or len(ring) % 2 or len(set(stems)) < size or len(set(places)) < size:
        return False
    told = {(stems[i], places[i]) for i in range(size)} | {(stems[i], places[(i - 1) % size]) for i in range(size)}
    return told == {fit for fit in table.fits() if fit[0] in stems and fit[1] in places}


def is_plain_domino(table, domino):
    """S2.5 word by word."""
    a, p, b, q, c, w = domino
    if len({a, b, c}) < 3 or len({p, q, w}) < 3:
        return False
    fits = table.fits()
    return (all(fit in fits for fit in [(a, p), (a, q), (a, w), (b, p), (b, q), (c, q), (c, w)])
            and (b, w) not in fits and (c, p) not in fits)


def mixed(stems, places):
    """The tuple in which stems and places take turns."""
    return tuple(colour for pair in zip(stems, places) for colour in pair)


def ways_to_tell(table, size):
    """All tuples of so many different stem colours and place colours, which take turns."""
    for stems in itertools.permutations(table.stems(), size):
        for places in itertools.permutations(table.places(), size):
            yield mixed(stems, places)


def plain_rings(table):
    """All rings, each told once."""
    return sorted(ring for size in range(3, 1 + min(len(table.stems()), len(table.places())))
                  for ring in ways_to_tell(table, size)
                  if ring[0] == min(ring[0::2]) and ring[1] < ring[-1] and is_plain_ring(table, ring))


def plain_dominoes(table):
    """All dominoes, each told once."""
    return sorted(one for one in ways_to_tell(table, 3) if one[1] < one[5] and is_plain_domino(table, one))


class Examples(unittest.TestCase):
    def test_good_tables(self):
        for table in [EMPTY, T, turned(T), Table(["a"], ["a"], [("a", "a")]), Table(["a"], [], [])]:
            self.assertIsNone(bar_of(table))
            self.assertEqual((rings_of(table), dominoes_of(table)), ([], []))

    def test_a_ring_of_three(self):
        word, ring = bar_of(RING_TABLE)
        self.assertEqual(word, "ring")
        self.assertTrue(is_plain_ring(RING_TABLE, ring))
        self.assertEqual(rings_of(RING_TABLE), [("a", "x", "c", "z", "b", "y")])
        self.assertEqual(dominoes_of(RING_TABLE), [])

    def test_a_domino(self):
        word, domino = bar_of(DOMINO_TABLE)
        self.assertEqual(word, "domino")
        self.assertTrue(is_plain_domino(DOMINO_TABLE, domino))
        self.assertEqual(dominoes_of(DOMINO_TABLE), [DOMINO])
        self.assertEqual(rings_of(DOMINO_TABLE), [])

    def test_a_chord_makes_a_domino_of_a_ring(self):
        for stem, place in [("a", "z"), ("b", "x"), ("c", "y")]:
            table = with_fit(RING_TABLE, stem, place)
            self.assertEqual(bar_of(table)[0], "domino")
            self.assertEqual((rings_of(table), len(dominoes_of(table))), ([], 1))

    def test_without_a_fit_there_is_no_bar(self):
        for stem, place in RING_TABLE.fits():
            self.assertIsNone(bar_of(without_fit(RING_TABLE, stem, place)))

    def test_longer_rings(self):
        for size in [3, 4, 5, 6, 8, 12]:
            table = ring_table(size)
            word, ring = bar_of(table)
            self.assertEqual((word, len(ring)), ("ring", 2 * size))
            self.assertTrue(is_plain_ring(table, ring))
            self.assertIs(judge_bar(table, (word, ring)), True)
            self.assertEqual(len(rings_of(table)), 1)
            self.assertEqual(dominoes_of(table), [])

    def test_a_ring_of_four_told_once(self):
        self.assertEqual(rings_of(ring_table(4)), [("c0", "c0", "c1", "c1", "c2", "c2", "c3", "c3")])

    def test_a_square_is_no_ring(self):
        self.assertIsNone(bar_of(Table(["a", "b"], ["x", "y"], [(s, p) for s in "ab" for p in "xy"])))

    def test_in_the_order_of_strings(self):
        table = Table(["c10", "c2", "c1"], ["z", "y", "x"],
                      [("c10", "z"), ("c10", "x"), ("c2", "x"), ("c2", "y"), ("c1", "y"), ("c1", "z")])
        self.assertEqual(rings_of(table), [("c1", "y", "c2", "x", "c10", "z")])


class Against(unittest.TestCase):
    def check(self, table):
        rings, dominoes = plain_rings(table), plain_dominoes(table)
        self.assertEqual(rings_of(table), rings)
        self.assertEqual(dominoes_of(table), dominoes)
        bar = bar_of(table)
        if bar is None:
            self.assertEqual(rings + dominoes, [])
        else:
            word, colours = bar
            self.assertTrue({"ring": is_plain_ring, "domino": is_plain_domino}[word](table, colours))
            self.assertIs(judge_bar(table, bar), True)

    def test_all_tables_of_three_and_three(self):
        for table in all_tables(["b", "a", "c"], ["x", "a", "b"]):
            self.check(table)

    def test_some_greater_tables(self):
        chance = random.Random(10)
        for part in [0.4, 0.5, 0.6, 0.7]:
            for stems, places in [(4, 4), (4, 4), (3, 5), (5, 3)]:
                names = chance.sample("abcdefgh", 8)
                self.check(some_table(chance, names[:stems], chance.sample(names, places), part))

    def test_tables_of_five_and_five(self):
        chance = random.Random(11)
        self.check(ring_table(5))
        self.check(some_table(chance, list("edcba"), list("abcxy"), 0.45))
        everything = [(s, p) for s in "abcde" for p in "vwxyz"]
        ends = [(s, p) for s, p in everything if ord(s) - ord("a") != ord(p) - ord("v")]
        self.check(Table(list("abcde"), list("vwxyz"), ends))


class Judged(unittest.TestCase):
    def test_each_way_to_tell_a_ring(self):
        for table in [RING_TABLE, DOMINO_TABLE, with_fit(RING_TABLE, "a", "z")]:
            for one in ways_to_tell(table, 3):
                self.assertIs(judge_bar(table, ("ring", one)), is_plain_ring(table, one))
                self.assertIs(judge_bar(table, ("domino", one)), is_plain_domino(table, one))
        good = [one for one in ways_to_tell(RING_TABLE, 3) if judge_bar(RING_TABLE, ("ring", one))]
        self.assertEqual(len(good), 6)
        good = [one for one in ways_to_tell(DOMINO_TABLE, 3) if judge_bar(DOMINO_TABLE, ("domino", one))]
        self.assertEqual(sorted(good), [DOMINO, ("a", "w", "c", "q", "b", "p")])

    def test_four(self):
        table = ring_table(4)
        good = [one for one in ways_to_tell(table, 4) if judge_bar(table, ("ring", one))]
        self.assertEqual(len(good), 8)
        for one in good:
            self.assertTrue(is_plain_ring(table, one))
            self.assertIs(judge_bar(table, ("domino", one)), False)
            self.assertIs(judge_bar(table, ("ring", one[:6])), False)

    def test_two_rings_are_no_ring(self):
        fits = RING_TABLE.fits() + [(s + "1", p + "1") for s, p in RING_TABLE.fits()]
        table = Table(["a", "b", "c", "a1", "b1", "c1"], ["x", "y", "z", "x1", "y1", "z1"], fits)
        one = ("a", "y", "b", "z", "c", "x")
        two = tuple(colour + "1" for colour in one)
        self.assertIs(judge_bar(table, ("ring", one)), True)
        self.assertIs(judge_bar(table, ("ring", two)), True)
        self.assertIs(judge_bar(table, ("ring", one + two)), False)

    def test_forms(self):
        ring = bar_of(RING_TABLE)[1]
        self.assertIs(judge_bar(RING_TABLE, ("ring", ring)), True)
        for value in cases(self, ODD_VALUES + [
                ["ring", ring], ("ring", list(ring)), ("ring",), ("ring", ring, None), (ring, "ring"), ring,
                ("domino", ring), ("rings", ring), ("ring", ring[:5]), ("ring", ring[1:]), ("ring", ring[1:] + ring[:1]),
                ("ring", ring + ring), ("ring", ring + ring[:1]), ("ring", ring[:4]), ("ring", ()), ("domino", ()),
                ("domino", ring[:5]), (None, ring), (True, ring), (T, ring), ("ring", "axbzcy"), ("ring", None)]):
            self.assertIs(judge_bar(RING_TABLE, value), False)
        for value in cases(self, ODD_VALUES + ["q", "x", "a"]):
            for number in range(6):
                if ring[number] != value:
                    other = ring[:number] + (value,) + ring[number + 1:]
                    self.assertIs(judge_bar(RING_TABLE, ("ring", other)), False)
                other = DOMINO[:number] + (value,) + DOMINO[number + 1:]
                self.assertIs(judge_bar(DOMINO_TABLE, ("domino", other)), other == DOMINO)
            self.assertIs(judge_bar(RING_TABLE, (value, ring)), False)
            self.assertIs(judge_bar(DOMINO_TABLE, (value, DOMINO)), False)
            self.assertIs(judge_bar(RING_TABLE, ("ring", value)), False)
        self.assertIs(judge_bar(EMPTY, ("ring", ())), False)
        self.assertIs(judge_bar(EMPTY, ("ring", ring)), False)

    def test_colours_that_stand_twice(self):
        """All tuples of six and eight colours in turn, over all tables of two and two."""
        for table in all_tables(["a", "b"], ["x", "a"]):
            for size in [3, 4]:
                for stems in itertools.product(["a", "b"], repeat=size):
                    for places in itertools.product(["x", "a"], repeat=size):
                        self.assertIs(judge_bar(table, ("ring", mixed(stems, places))), False)
                        self.assertIs(judge_bar(table, ("domino", mixed(stems, places))), False)

    def test_odd_numbers_of_colours(self):
        for table in [ring_table(4), Table(list("abcd"), list("wxyz"), [(s, p) for s in "abcd" for p in "wxyz"])]:
            for colours in [one for one in ways_to_tell(table, 4)][::7]:
                for size in [5, 7]:
                    self.assertIs(judge_bar(table, ("ring", colours[:size])), False)
                    self.assertIs(judge_bar(table, ("domino", colours[:size])), False)

    def test_a_ring_and_one_more_colour(self):
        table = Table(RING_TABLE.stems() + ["d"], RING_TABLE.places(), RING_FITS)
        for stem in ["d", "a"]:
            self.assertIs(judge_bar(table, ("ring", bar_of(table)[1] + (stem,))), False)

    def test_a_domino_has_six_colours(self):
        gaps = [("b", "z"), ("c", "x")]
        table = Table(list("abcd"), list("xyzw"), [(s, p) for s in "abcd" for p in "xyzw" if (s, p) not in gaps])
        self.assertIs(judge_bar(table, ("domino", ("a", "x", "b", "y", "c", "z"))), True)
        self.assertIs(judge_bar(table, ("domino", ("a", "x", "b", "y", "c", "z", "d", "w"))), False)
        self.assertIs(judge_bar(table, ("domino", ("a", "x", "b", "y"))), False)

    def test_a_square_is_no_bar(self):
        table = Table(["a", "b"], ["x", "y"], [(s, p) for s in "ab" for p in "xy"])
        self.assertIs(judge_bar(table, ("ring", ("a", "x", "b", "y"))), False)


class Rules(unittest.TestCase):
    def test_rules(self):
        for table in [EMPTY, T, RING_TABLE, DOMINO_TABLE, ring_table(4)]:
            for function in [bar_of, rings_of, dominoes_of]:
                keeps_the_rules(self, function, table)
            keeps_the_rules(self, judge_bar, table, ["ring", [{"a": []}]])
            keeps_the_rules(self, judge_bar, table, ("ring", RING))

    def test_great_tables(self):
        chance = random.Random(12)
        for part in [0.1, 0.3, 0.5, 0.7, 0.9]:
            names = [f"c{number}" for number in range(16)]
            table = some_table(chance, names, names, part)
            bar = bar_of(table)
            self.assertIs(judge_bar(table, bar), peeling_of(table) is None)
