import random
import unittest

from kindredbush.bags import Bag, colour_of
from kindredbush.bars import bar_of
from kindredbush.changes import changed, fits_used, good_changes, grove_over, is_change, lives_in
from kindredbush.errors import BadAct, BadBag, BadGrove
from kindredbush.groves import Grove
from kindredbush.peelings import peeling_of
from kindredbush.tables import Table, part_of, turned
from tests.support import (BUSH_TABLE, DOMINO_TABLE, GROVE, ODD_VALUES, OTHER_GROVE, RING_TABLE, T, all_tables, cases,
                           keeps_the_rules, raises, some_table)
from tests.test_deeds import EMPTY
from tests.test_pieces import some_groves
from tests.test_plainwalks import DOMINO_ONE, RING_ONE

TABLES = [T, BUSH_TABLE, RING_TABLE, DOMINO_TABLE, Table([], [], []), Table(["a"], [], []), Table(["a"], ["a"], [])]


def plain_changed(table, change):
    """S9.5 word by word: just this is otherwise."""
    word, stem, place = change
    fits = [(one, other) for one in table.stems() for other in table.places()
            if ((one, other) == (stem, place)) != table.is_fit(one, other)]
    return Table(table.stems(), table.places(), fits)


def plain_changes(table):
    return [("forbid" if table.is_fit(stem, place) else "allow", stem, place)
            for stem in table.stems() for place in table.places()]


def plain_over(grove, table):
    """The grove over a table, or None if it cannot be made."""
    try:
        return Grove(Bag(table, grove.bag().joints()), grove.roots(), grove.bushes())
    except (BadBag, BadGrove):
        return None


class Changes(unittest.TestCase):
    def test_word_by_word(self):
        for table in TABLES + list(all_tables(["a", "b"], ["x", "a"])):
            changes = plain_changes(table)
            for change in changes:
                other = ("allow" if change[0] == "forbid" else "forbid", *change[1:])
                self.assertIs(is_change(table, change), True)
                self.assertIs(is_change(table, other), False)
                self.assertEqual(changed(table, change), plain_changed(table, change))
                self.assertEqual(changed(changed(table, change), other), table)
                raises(self, BadAct, {"word": "change"}, changed, table, other)

    def test_good_changes(self):
        """Behind a good change there is a peeling, whether the table itself has one or not."""
        chance = random.Random(330)
        met = set()
        for table in TABLES + [some_table(chance, list("abcde"), list("vwxyz"), 0.5) for _ in range(20)] + [
                some_table(chance, list("abc"), list("xyz"), 0.7) for _ in range(40)]:
            wanted = [change for change in plain_changes(table) if peeling_of(plain_changed(table, change)) is not None]
            met.add((bar_of(table) is None, wanted == plain_changes(table), wanted == []))
            self.assertEqual(good_changes(table), wanted)
        self.assertGreater(len(met), 3)

    def test_examples(self):
        """S9.8 and S10.9."""
        self.assertEqual(good_changes(RING_TABLE), [("forbid", *fit) for fit in RING_TABLE.fits()])
        more = Table(RING_TABLE.stems(), RING_TABLE.places(), RING_TABLE.fits() + [("a", "z")])
        self.assertEqual(good_changes(more), [("forbid", "a", "x"), ("forbid", "a", "y"), ("allow", "b", "x"),
                                              ("forbid", "b", "y"), ("forbid", "b", "z"), ("forbid", "c", "x"),
                                              ("allow", "c", "y"), ("forbid", "c", "z")])
        for change in plain_changes(RING_TABLE):
            if change[0] == "allow":
                self.assertEqual(bar_of(changed(RING_TABLE, change))[0], "domino")
        self.assertIn(("allow", "b", "w"), good_changes(DOMINO_TABLE))
        self.assertEqual(good_changes(Table([], [], [])), [])

    def test_other_values(self):
        tried = ODD_VALUES + ["allow", ("allow",), ("allow", "b"), ("allow", "b", "x", "x"), ["allow", "b", "x"],
                              ("allow", "x", "b"), ("allow", "c", "x"), ("allow", "b", "c"), ("forbid", "b", "x"),
                              ("allow", "a", "x"), ("nail", "a", "x"), ("Allow", "b", "x"), (None, "b", "x"), ("fit", "a", "x")]
        for value in cases(self, tried):
            self.assertIs(is_change(T, value), False)
            raises(self, BadAct, {"word": "change"}, changed, T, value)
        for value in cases(self, ODD_VALUES):
            for change in [(value, "b", "x"), ("allow", value, "x"), ("forbid", value, "x"), ("allow", "b", value),
                           ("forbid", "a", value)]:
                known = change in [("allow", "b", "x"), ("forbid", "a", "x")]
                self.assertIs(is_change(T, change), known)
                if not known:
                    raises(self, BadAct, {"word": "change"}, changed, T, change)

    def test_parts_and_tables_turned(self):
        """S9.4."""
        chance = random.Random(331)
        for _ in range(60):
            table = some_table(chance, list("abcd"), list("wxyz"), 0.5)
            good = bar_of(table) is None
            self.assertIs(bar_of(turned(table)) is None, good)
            part = part_of(table, chance.sample(table.stems(), 3), chance.sample(table.places(), 3))
            self.assertTrue(bar_of(part) is None or not good)


class Lives(unittest.TestCase):
    GROVES = [GROVE, OTHER_GROVE, EMPTY, RING_ONE, DOMINO_ONE] + some_groves(332, 10, 5)

    def test_fits_used(self):
        for grove in self.GROVES:
            bag = grove.bag()
            used = {(bag.stem(name), colour_of(bag, grove.roots(), place)) for place, name in grove.rows()}
            self.assertEqual(fits_used(grove), [fit for fit in bag.table().fits() if fit in used])
        self.assertEqual(fits_used(GROVE), [("a", "x"), ("a", "y"), ("b", "y")])
        self.assertEqual(fits_used(EMPTY), [])

    def test_word_by_word(self):
        chance = random.Random(333)
        met = [0, 0]
        for grove in self.GROVES:
            table = grove.bag().table()
            stems, places = table.stems(), table.places()
            others = [plain_changed(table, change) for change in plain_changes(table)]
            others += [part_of(table, stems[:1], places), part_of(table, stems, places[1:]), turned(table),
                       Table(stems[::-1], places[::-1], table.fits()),
                       Table(stems + ["more"], ["more"] + places, table.fits()), T, BUSH_TABLE, Table([], [], [])]
            others += [some_table(chance, stems, places, 0.8) for _ in range(10)]
            for other in others:
                wanted = plain_over(grove, other)
                met[wanted is not None] += 1
                self.assertIs(lives_in(grove, other), wanted is not None)
                self.assertEqual(grove_over(grove, other), wanted)
        self.assertGreater(min(met), 40)

    def test_changes(self):
        """S9.6: behind a change a grove lives on exactly if the change forbids no fit that it uses."""
        for grove in self.GROVES:
            table = grove.bag().table()
            self.assertEqual(grove_over(grove, table), grove)
            for change in plain_changes(table):
                self.assertIs(lives_in(grove, changed(table, change)),
                              change[0] == "allow" or change[1:] not in fits_used(grove))

    def test_colours_that_nothing_uses(self):
        """All colours of its joints and roots must be there, also those of stems and branches that fit anew."""
        bag = Bag(BUSH_TABLE, [("p", "a", ())])
        grove = Grove(bag, ["x"], [("p",)])
        self.assertIs(lives_in(grove, Table(["a"], ["x"], [("a", "x")])), True)
        self.assertIs(lives_in(grove, Table(["b"], ["x"], [("b", "x")])), False)
        self.assertIs(lives_in(grove, Table(["a"], ["y"], [("a", "y")])), False)
        self.assertIs(lives_in(EMPTY, Table([], [], [])), True)
        self.assertEqual(grove_over(EMPTY, T), Grove(Bag(T, []), [], []))

    def test_another_order(self):
        table = Table(["b", "a"], ["y", "x"], BUSH_TABLE.fits())
        found = grove_over(GROVE, table)
        self.assertEqual((found.bag(), found.roots(), found.bushes()), (Bag(table, GROVE.bag().joints()), ("x",),
                                                                       GROVE.bushes()))
        self.assertIs(found == GROVE, False)


class Rules(unittest.TestCase):
    def test_rules(self):
        for call in [(is_change, T, ("allow", "b", "x")), (is_change, T, ["allow", "b", "x"]), (good_changes, RING_TABLE),
                     (changed, T, ("allow", "b", "x")), (fits_used, GROVE), (lives_in, GROVE, BUSH_TABLE),
                     (grove_over, GROVE, BUSH_TABLE), (grove_over, GROVE, T)]:
            keeps_the_rules(self, *call)
