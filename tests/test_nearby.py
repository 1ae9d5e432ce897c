import itertools
import random
import time
import unittest

from kindredbush.bars import bar_of, judge_bar
from kindredbush.changes import changed
from kindredbush.errors import TooGreat
from kindredbush.nearby import far_paper, how_far, judge_far, nearest_tables
from kindredbush.tables import Table
from tests.support import (BUSH_TABLE, DOMINO_TABLE, ODD_VALUES, RING_FITS, RING_TABLE, T, all_tables, cases,
                           keeps_the_rules, raises, some_table)
from tests.test_breaking import all_bars
from tests.test_changes import plain_changed, plain_changes

# A table that is more than two changes far.
FAR = Table(list("abcde"), list("vwxyz"), [tuple(fit) for fit in (
    "aw ay az bv bx by bz cv cx cy cz dv dz ev ew ex ey").split()])
EMPTY = Table([], [], [])


def plain_nearest(table):
    """S9.7 word by word: all sets of so many changes, from none on, until some lead to good tables."""
    pairs = list(itertools.product(range(len(table.stems())), range(len(table.places()))))
    for many in range(3):
        found = []
        for chosen in itertools.combinations(pairs, many):
            changes, here = [], table
            for one, other in chosen:
                stem, place = table.stems()[one], table.places()[other]
                changes.append(("forbid" if table.is_fit(stem, place) else "allow", stem, place))
                here = plain_changed(here, changes[-1])
            if bar_of(here) is None:
                found.append((tuple(changes), here))
        if found:
            return found
    return None


def some_tables(seed):
    chance = random.Random(seed)
    tables = [T, BUSH_TABLE, RING_TABLE, DOMINO_TABLE, EMPTY, FAR]
    tables += [some_table(chance, list("abc"), list("xyz"), 0.6) for _ in range(40)]
    tables += [some_table(chance, list("abcd"), list("wxyz"), 0.5) for _ in range(30)]
    return tables + [some_table(chance, list("abcde"), list("vwxyz"), 0.5) for _ in range(14)]


def plain_pairs(table, bar):
    """The changes of the colours of a bar, in the order of S9.5."""
    return [change for change in plain_changes(table) if change[1] in bar[1][::2] and change[2] in bar[1][1::2]]


def plain_paper(table, many, value):
    """S9.7 word by word."""
    if not isinstance(value, tuple) or len(value) != 2 or not judge_bar(table, value[0]):
        return False
    bar, papers = value
    if not isinstance(papers, tuple):
        return False
    if many == 0:
        return papers == ()
    pairs = plain_pairs(table, bar)
    return len(papers) == len(pairs) and all(
        plain_paper(plain_changed(table, pair), many - 1, paper) for pair, paper in zip(pairs, papers))


class Nearest(unittest.TestCase):
    def test_word_by_word(self):
        met = set()
        for table in some_tables(340):
            wanted = plain_nearest(table)
            if wanted is None:
                met.add(None)
                raises(self, TooGreat, {}, how_far, table)
                raises(self, TooGreat, {}, nearest_tables, table)
            else:
                met.add(len(wanted[0][0]))
                self.assertEqual(how_far(table), len(wanted[0][0]))
                self.assertEqual(nearest_tables(table), wanted)
        self.assertEqual(met, {0, 1, 2, None})

    def test_good_tables(self):
        for table in [T, BUSH_TABLE, EMPTY, Table(["a"], [], [])]:
            self.assertEqual((how_far(table), nearest_tables(table)), (0, [((), table)]))

    def test_examples(self):
        """S9.8."""
        self.assertEqual(how_far(RING_TABLE), 1)
        self.assertEqual([changes for changes, _ in nearest_tables(RING_TABLE)],
                         [(("forbid", *fit),) for fit in RING_TABLE.fits()])
        more = Table(list("abc"), list("xyz"), RING_FITS + [("a", "z")])
        self.assertEqual(how_far(more), 1)
        self.assertEqual([changes for changes, _ in nearest_tables(more)], [
            (change,) for change in plain_changes(more)
            if change[0] == "forbid" and change[1:] != ("a", "z") or change[1:] in (("b", "x"), ("c", "y"))])
        self.assertEqual(len(nearest_tables(more)), 8)

    def test_joined_tables(self):
        """S9.7: how far they are adds up."""
        chance = random.Random(341)
        for _ in range(12):
            one = some_table(chance, list("abc"), list("xyz"), 0.7)
            other = some_table(chance, list("de"), list("vw"), 0.7)
            joined = Table(one.stems() + other.stems(), other.places() + one.places(), one.fits() + other.fits())
            self.assertEqual(how_far(joined), how_far(one))
        two = Table(list("abcdef"), list("xyzuvw"), RING_FITS + [tuple(fit) for fit in "du dv ev ew fw fu".split()])
        self.assertEqual(how_far(two), 2)
        self.assertEqual(len(nearest_tables(two)), 36)

    def test_five_and_five(self):
        start = time.monotonic()
        raises(self, TooGreat, {}, how_far, FAR)
        raises(self, TooGreat, {}, nearest_tables, FAR)
        self.assertLess(time.monotonic() - start, 10)


class Papers(unittest.TestCase):
    def test_word_by_word(self):
        for table in some_tables(342)[:60]:
            nearest = plain_nearest(table)
            far = 3 if nearest is None else len(nearest[0][0])
            for many in range(3):
                paper = far_paper(table, many)
                self.assertEqual(paper is not None, far > many)
                if paper is not None:
                    self.assertIs(plain_paper(table, many, paper), True)
                    self.assertIs(judge_far(table, many, paper), True)
                    for other in range(3):
                        self.assertIs(judge_far(table, other, paper), other == many)

    def test_none(self):
        for many in range(3):
            for table in [T, BUSH_TABLE, EMPTY]:
                self.assertIsNone(far_paper(table, many))
        self.assertIsNone(far_paper(RING_TABLE, 1))
        self.assertIsNone(far_paper(RING_TABLE, 2))
        self.assertEqual(far_paper(RING_TABLE, 0), (bar_of(RING_TABLE), ()))

    def test_any_bar(self):
        for table in (RING_TABLE, DOMINO_TABLE):
            for bar in all_bars(table):
                self.assertIs(judge_far(table, 0, (bar, ())), True)
                self.assertIs(judge_far(table, 1, (bar, ())), False)
                self.assertIs(judge_far(table, 0, (bar, ((bar, ()),))), False)

    def test_the_order_of_the_papers(self):
        found = far_paper(FAR, 1)
        bar, papers = found
        pairs = plain_pairs(FAR, bar)
        self.assertEqual(len(papers), len(pairs))
        for pair, paper in zip(pairs, papers):
            self.assertIs(judge_far(changed(FAR, pair), 0, paper), True)
        turned = (bar, papers[::-1])
        self.assertIs(judge_far(FAR, 1, turned), plain_paper(FAR, 1, turned))
        self.assertIs(judge_far(FAR, 1, turned), False)

    def test_words_of_both_sides(self):
        """Stem colours that are also place colours, of which a bar has one alone."""
        words = dict(zip("vwxyz", "bcdea"))
        table = Table(FAR.stems(), [words[place] for place in FAR.places()], [(a, words[b]) for a, b in FAR.fits()])
        for many in range(3):
            paper = far_paper(table, many)
            self.assertIs(plain_paper(table, many, paper), True)
            self.assertIs(judge_far(table, many, paper), True)

    def test_spoilt_papers(self):
        bar, papers = far_paper(FAR, 2)
        good = far_paper(FAR, 1)[1]
        self.assertIs(judge_far(FAR, 2, (bar, papers)), True)
        for value in [(bar, papers[:-1]), (bar, papers + papers[-1:]), (bar, list(papers)), [bar, papers], (bar, ()),
                      (bar, good), (papers, bar), (bar,), (bar, papers, ()), (list(bar), papers), (None, papers),
                      (bar, None), ((bar[0], bar[1][2:] + bar[1][:2]), papers[1:]), bar,
                      (bar, papers[:3] + ((papers[3][0], papers[3][1][1:]),) + papers[4:]),
                      (bar, papers[:3] + ((papers[3][0], papers[3][1][:-1] + (None,)),) + papers[4:]),
                      (bar, papers[:-1] + (list(papers[-1]),))]:
            self.assertIs(judge_far(FAR, 2, value), False)

    def test_other_values(self):
        for table in (T, RING_TABLE, FAR, EMPTY):
            for many in range(3):
                for value in cases(self, ODD_VALUES + [(value, ()) for value in ODD_VALUES] + [((), ()), ("ring", ())]):
                    self.assertIs(judge_far(table, many, value), False)
        for value in cases(self, [one for one in ODD_VALUES if one != ()]):
            self.assertIs(judge_far(RING_TABLE, 0, (bar_of(RING_TABLE), value)), False)
            self.assertIs(judge_far(FAR, 1, (bar_of(FAR), value)), False)
            self.assertIs(judge_far(FAR, 1, (bar_of(FAR), (value,) * 9)), False)

    def test_small_tables(self):
        for table in list(all_tables(list("abc"), list("xyz")))[::7]:
            for many in range(2):
                found = far_paper(table, many)
                self.assertEqual(found is None, len(plain_nearest(table)[0][0]) <= many)


class Rules(unittest.TestCase):
    def test_rules(self):
        for call in [(how_far, RING_TABLE), (nearest_tables, RING_TABLE), (nearest_tables, T), (far_paper, FAR, 1),
                     (judge_far, FAR, 1, far_paper(FAR, 1)), (judge_far, FAR, 1, [far_paper(FAR, 1), {}])]:
            keeps_the_rules(self, *call)
