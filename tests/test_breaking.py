import itertools
import unittest

from kindredbush.bags import Bag
from kindredbush.bars import bar_of, dominoes_of, judge_bar, rings_of
from kindredbush.breaking import breaking, judge_breaking
from kindredbush.coins import due
from kindredbush.deeds import all_deeds
from kindredbush.groves import Grove
from kindredbush.peelings import ladder_of
from kindredbush.plainwalks import fewest_by_walks, reached
from kindredbush.tables import Table, part_of, with_fit
from tests.support import BUSH_TABLE, DOMINO_TABLE, ODD_VALUES, RING_TABLE, T, all_tables, cases, keeps_the_rules
from tests.test_plainwalks import DOMINO_ONE, DOMINO_OTHER

TABLES = [table for table in all_tables(["a", "b", "c"], ["x", "y", "z"]) if bar_of(table) is not None]


def ring_table(many):
    return Table([f"s{n}" for n in range(many)], [f"p{n}" for n in range(many)],
                 [(f"s{n}", f"p{(n + more) % many}") for n in range(many) for more in (0, 1)])


def plain_break(table, bar, names):
    """S7.5 and S7.6 word by word."""
    if bar[0] == "ring":
        stems, places = bar[1][::2], bar[1][1::2]
        many = len(stems)
        bag = Bag(table, [(names[n], stems[n], ()) for n in range(many)])
        f = Grove(bag, places, [(names[n],) for n in range(many)])
        g = Grove(bag, places, [(names[(n + 1) % many],) for n in range(many)])
        return (bar, f, g)
    a, p, b, q, c, w = bar[1]
    c1, a1, b1, a2, b2 = names
    bag = Bag(table, [(c1, c, (p,)), (a1, a, (w, p)), (b1, b, (q,)), (a2, a, ()), (b2, b, ())])
    return (bar, Grove(bag, (q,), ((c1, (a1, (a2,), (b1, (b2,)))),)), Grove(bag, (q,), ((b1, (a1, (c1, (b2,)), (a2,))),)))


def names_of(bar):
    return ["c1", "a1", "b1", "a2", "b2"] if bar[0] == "domino" else [f"j{n + 1}" for n in range(len(bar[1]) // 2)]


def all_bars(table):
    """All bars of a table of three colours of each side."""
    for stems in itertools.permutations(table.stems()):
        for places in itertools.permutations(table.places()):
            for word in ("ring", "domino"):
                bar = (word, tuple(colour for pair in zip(stems, places) for colour in pair))
                if judge_bar(table, bar):
                    yield bar


class Breaking(unittest.TestCase):
    def check(self, table):
        bar = bar_of(table)
        found = breaking(table)
        self.assertEqual(found, plain_break(table, bar, names_of(bar)))
        self.assertEqual(found[1].bag().names(), names_of(bar))
        self.assertIs(judge_breaking(table, found), True)

    def test_word_by_word(self):
        self.assertEqual({bar_of(table)[0] for table in TABLES}, {"ring", "domino"})
        for table in TABLES:
            self.check(table)

    def test_examples(self):
        self.assertEqual(breaking(DOMINO_TABLE), (bar_of(DOMINO_TABLE), *plain_break(
            DOMINO_TABLE, bar_of(DOMINO_TABLE), names_of(bar_of(DOMINO_TABLE)))[1:]))
        self.assertIs(judge_breaking(DOMINO_TABLE, (("domino", ("a", "p", "b", "q", "c", "w")), DOMINO_ONE,
                                                    DOMINO_OTHER)), True)
        self.assertIs(judge_breaking(RING_TABLE, breaking(RING_TABLE)), True)

    def test_greater_tables(self):
        for many in range(3, 9):
            table = ring_table(many)
            self.check(table)
            bar, f, g = breaking(table)
            self.assertEqual((due(f, g), all_deeds(f)), (many - 1, []))
        for table in [RING_TABLE, DOMINO_TABLE]:
            self.check(Table(["more"] + table.stems(), table.places() + ["more"], table.fits() + [("more", "more")]))

    def test_no_way_pays_due(self):
        for table in TABLES[::3]:
            bar, f, g = breaking(table)
            if bar[0] == "ring":
                self.assertEqual((due(f, g), reached(f)), (2, [f]))
            else:
                self.assertEqual((due(f, g), fewest_by_walks(f, g, 3), fewest_by_walks(f, g, 5)), (3, None, 5))

    def test_good_tables(self):
        for table in [T, BUSH_TABLE, Table([], [], []), Table(["a"], ["x"], [])]:
            self.assertIsNone(breaking(table))
        for table in all_tables(["a", "b", "c"], ["x", "y"]):
            self.assertIsNone(breaking(table))


class Judged(unittest.TestCase):
    def test_any_bar_and_any_names(self):
        for table in TABLES[::5]:
            for bar in all_bars(table):
                for names in (names_of(bar), names_of(bar)[::-1], [f"x{n}" for n in range(len(names_of(bar)))]):
                    self.assertIs(judge_breaking(table, plain_break(table, bar, names)), True)

    def test_other_values(self):
        for table in (RING_TABLE, DOMINO_TABLE, T):
            for value in cases(self, ODD_VALUES + [(value,) * 3 for value in ODD_VALUES]):
                self.assertIs(judge_breaking(table, value), False)
        for table in (RING_TABLE, DOMINO_TABLE):
            bar, f, g = breaking(table)
            for value in cases(self, ODD_VALUES + [bar, f, g, breaking(table)]):
                self.assertIs(judge_breaking(table, (value, f, g)), value == bar and isinstance(value, tuple))
                self.assertIs(judge_breaking(table, (bar, value, g)), value == f)
                self.assertIs(judge_breaking(table, (bar, f, value)), value == g)
                self.assertIs(judge_breaking(table, (bar, f, g, value)), False)
            for value in [[bar, f, g], (bar, f), (bar, g, f), (bar, f, f), (bar, g, g), (list(bar), f, g),
                          ((bar[0], list(bar[1])), f, g), (bar,), (bar, f.bushes(), g.bushes())]:
                self.assertIs(judge_breaking(table, value), False)

    def test_another_bar(self):
        """Of a ring that is told another way round the groves are others."""
        rings = [bar for bar in all_bars(RING_TABLE)]
        self.assertEqual(len(rings), 6)
        for one in rings:
            for other in rings:
                f, g = plain_break(RING_TABLE, one, names_of(one))[1:]
                self.assertIs(judge_breaking(RING_TABLE, (other, f, g)), one == other)
        dominoes = [bar for bar in all_bars(DOMINO_TABLE)]
        self.assertEqual(len(dominoes), 2)
        f, g = plain_break(DOMINO_TABLE, dominoes[0], "vwxyz")[1:]
        self.assertIs(judge_breaking(DOMINO_TABLE, (dominoes[1], f, g)), False)

    def test_another_table(self):
        for table in (RING_TABLE, DOMINO_TABLE):
            bar, f, g = breaking(table)
            more = Table(table.stems() + ["more"], table.places(), table.fits())
            for other in (more, part_of(table, table.stems(), table.places()[:2]), Table(table.stems()[::-1],
                          table.places(), table.fits()), with_fit(with_fit(table, "b", "x" if table == RING_TABLE else "w"),
                          "b", table.places()[0])):
                self.assertIs(judge_breaking(other, (bar, f, g)), False)
            self.assertIs(judge_breaking(more, plain_break(more, bar, names_of(bar))), True)
            self.assertIs(judge_breaking(Table(table.stems(), table.places(), table.fits()[::-1]), (bar, f, g)), True)

    def test_other_bags(self):
        """More joints, joints in another order, other roots."""
        bar, f, g = breaking(RING_TABLE)
        joints = f.bag().joints()
        for bag, roots, one, other in [
                (Bag(RING_TABLE, joints + [("k", "a", ())]), f.roots() + ("x",), f.bushes() + [("k",)], g.bushes() + [("k",)]),
                (Bag(RING_TABLE, joints[::-1]), f.roots(), f.bushes(), g.bushes()),
                (f.bag(), f.roots()[::-1], f.bushes()[::-1], g.bushes()[::-1]),
                (Bag(RING_TABLE, joints[:0]), (), (), ())]:
            self.assertIs(judge_breaking(RING_TABLE, (bar, Grove(bag, roots, one), Grove(bag, roots, other))), False)
        bar, f, g = breaking(DOMINO_TABLE)
        bag = Bag(DOMINO_TABLE, f.bag().joints()[1:] + f.bag().joints()[:1])
        self.assertIs(judge_breaking(DOMINO_TABLE, (bar, Grove(bag, f.roots(), f.bushes()), Grove(bag, g.roots(),
                                                                                             g.bushes()))), False)


class Rules(unittest.TestCase):
    def test_rules(self):
        for table in (RING_TABLE, DOMINO_TABLE, T):
            keeps_the_rules(self, breaking, table)
            keeps_the_rules(self, judge_breaking, table, breaking(RING_TABLE))
            keeps_the_rules(self, judge_breaking, table, [breaking(RING_TABLE), {}])

    def test_both_ways_told(self):
        """A table has a break exactly if it has no ladder."""
        for table in TABLES:
            self.assertRaises(ValueError, ladder_of, table)
            self.assertEqual(bool(rings_of(table) or dominoes_of(table)), True)
