import itertools
import random
import time
import unittest

from kindredbush.bags import Bag
from kindredbush.bars import bar_of
from kindredbush.building import can_build
from kindredbush.chances import chance_of_joint, chance_of_stem, mean, means, share
from kindredbush.counting import count_assemblies, count_beginning, count_groves, first_joints
from kindredbush.errors import BadTable
from kindredbush.groves import Grove
from kindredbush.numbering import drawn_grove, grove_at, groves_from, next_grove, number_of
from kindredbush.peelings import ladder_of
from kindredbush.tables import Table
from tests.support import (BAG, BUSH_TABLE, DOMINO_TABLE, RING_TABLE, keeps_the_rules, raises, some_bag,
                           some_ladder)
from tests.test_assemblies import all_assemblies
from tests.test_coins import nested_table, some_joints
from tests.test_flows import some_cases
from tests.test_groves import all_groves, walk_of
from tests.test_matrices import BAG as RED_BAG
from tests.test_matrices import ROOTS, TABLE


def row_of(grove):
    return [name for bush in grove.bushes() for name in walk_of(bush)]


def good_cases(seed, most, many):
    """Bags with roots over good tables, with and without groves."""
    for joints in range(most + 1):
        for _, bag, roots in some_cases(seed + joints, many, joints or 1):
            yield bag, list(roots)


def bad_calls(bag, roots):
    """Calls of all functions of this stage that need a good table, with what is wrong further on."""
    for function in (count_assemblies, count_groves, first_joints, means, share):
        yield function, bag, roots
    for names in ([], ["x"]):
        yield count_beginning, bag, roots, names
    for value in (None, "a", ("root", 0)):
        yield chance_of_stem, bag, roots, value, value
        yield chance_of_joint, bag, roots, value, value
        yield mean, bag, roots, value, value
    for number in (0, 1, 10 ** 50):
        yield grove_at, bag, roots, number
        yield drawn_grove, bag, roots, number
    yield groves_from, bag, roots


class Counts(unittest.TestCase):
    def test_all(self):
        met = [0, 0]
        for bag, roots in good_cases(240, 6, 40):
            assemblies = len(list(all_assemblies(bag, roots)))
            groves = all_groves(bag, roots)
            met[bool(groves)] += 1
            self.assertEqual(count_assemblies(bag, roots), assemblies)
            self.assertEqual(count_groves(bag, roots), len(groves))
            rows = [row_of(grove) for grove in groves]
            wanted = [(name, sum(row[0] == name for row in rows)) for name in bag.names()
                      if bag.table().is_fit(bag.stem(name), roots[0])] if roots else []
            self.assertEqual(first_joints(bag, roots), wanted)
        self.assertGreater(min(met), 60)

    def test_joints_of_one_colour(self):
        """All orders, and as many trees as there are."""
        table = Table(["k"], ["l"], [("k", "l")])
        for many in range(1, 8):
            bag = Bag(table, [(f"j{n}", "k", ("l",) * (n > 0)) for n in range(many)])
            orders = 1
            for number in range(2, many):
                orders *= number
            self.assertEqual(count_groves(bag, ["l"]), orders)
            self.assertEqual(count_assemblies(bag, ["l"]), orders * many)

    def test_examples(self):
        self.assertEqual((count_assemblies(RED_BAG, ROOTS), count_groves(RED_BAG, ROOTS)), (4, 2))
        self.assertEqual(first_joints(RED_BAG, ROOTS), [("p", 2), ("x", 0)])
        self.assertEqual(count_groves(BAG, ["x"]), len(all_groves(BAG, ["x"])))

    def test_nothing(self):
        for table in (TABLE, Table([], [], []), BUSH_TABLE):
            self.assertEqual((count_assemblies(Bag(table, []), []), count_groves(Bag(table, []), ())), (1, 1))
            self.assertEqual(first_joints(Bag(table, []), []), [])
            self.assertEqual(count_beginning(Bag(table, []), [], []), 1)
            self.assertEqual(count_beginning(Bag(table, []), [], ["a"]), 0)
        self.assertEqual((count_assemblies(Bag(TABLE, []), ["rim"]), count_groves(Bag(TABLE, []), ["rim"])), (0, 0))
        self.assertEqual(first_joints(Bag(TABLE, []), ["rim"]), [])
        bag = Bag(TABLE, [("a", "red", ("rim",))])
        self.assertEqual((count_assemblies(bag, []), count_groves(bag, []), first_joints(bag, [])), (1, 0, []))

    def test_too_many(self):
        """A root or a joint more than there may be; a flow below 0."""
        for roots in ([], ["rim", "rim"], ["rim", "bud"], ["bud", "bud", "bud"]):
            self.assertEqual((count_assemblies(RED_BAG, roots), count_groves(RED_BAG, roots)), (0, 0))
            self.assertTrue(all(number == 0 for name, number in first_joints(RED_BAG, roots)))
        bag = Bag(TABLE, RED_BAG.joints() + [("y", "red", ())])
        self.assertEqual((count_assemblies(bag, ["rim"]), count_groves(bag, ["rim"])), (0, 0))
        self.assertEqual(first_joints(bag, ["rim"]), [("p", 0), ("x", 0), ("y", 0)])
        low = Bag(TABLE, [("q", "blue", ()), ("x", "red", ())])
        self.assertEqual((count_assemblies(low, ["rim", "rim"]), count_groves(low, ["rim", "rim"])), (0, 0))
        self.assertEqual(first_joints(low, ["rim", "rim"]), [("x", 0)])

    def test_a_flow_of_nought(self):
        bag = Bag(TABLE, [("q", "blue", ("rim",)), ("x", "red", ())])
        self.assertEqual((count_assemblies(bag, ["bud"]), count_groves(bag, ["bud"])), (1, 1))
        self.assertEqual((count_assemblies(bag, ["rim"]), count_groves(bag, ["rim"])), (0, 0))


class Beginnings(unittest.TestCase):
    def test_all(self):
        for bag, roots in good_cases(250, 5, 16):
            rows = [row_of(grove) for grove in all_groves(bag, roots)]
            for many in range(len(bag.names()) + 1):
                for names in itertools.permutations(bag.names(), many):
                    wanted = sum(row[:many] == list(names) for row in rows)
                    self.assertEqual(count_beginning(bag, roots, names), wanted)

    def test_any_names(self):
        for names in (["q"], ["nothere"], [""], ["root"], ["P"], ["p", "p"], ["p", "nothere"], ["p", "x", "q", "q"],
                      ["p", "x", "q", "a"], ["x", "p"], ["p", "x", "x"], ["p "]):
            self.assertEqual(count_beginning(RED_BAG, ROOTS, names), 0)
        for names in (["p"], ["p", "x"], ["p", "q"], ["p", "x", "q"], ("p", "q", "x")):
            self.assertEqual(count_beginning(RED_BAG, ROOTS, names), 2 if len(names) == 1 else 1)
        self.assertEqual(count_beginning(RED_BAG, ROOTS, ()), 2)
        self.assertEqual(count_beginning(RED_BAG, [], ["p"]), 0)


class BadTables(unittest.TestCase):
    def test_first_of_all(self):
        for table in (RING_TABLE, DOMINO_TABLE):
            word, value = bar_of(table)
            full = Bag(table, [("j", "a", ())])
            for bag in (Bag(table, []), full):
                for roots in ([], [table.places()[0]], [table.places()[0]] * 2):
                    for call in bad_calls(bag, roots):
                        raises(self, BadTable, {"word": word, "value": value}, *call)
            grove = Grove(full, [table.places()[0]], [("j",)])
            for function in (number_of, next_grove):
                raises(self, BadTable, {"word": word, "value": value}, function, grove)

    def test_empty_groves(self):
        word, value = bar_of(RING_TABLE)
        grove = Grove(Bag(RING_TABLE, []), [], [])
        for function in (number_of, next_grove):
            raises(self, BadTable, {"word": word, "value": value}, function, grove)


class Rules(unittest.TestCase):
    def test_rules(self):
        for bag, roots in [(RED_BAG, ROOTS), (Bag(TABLE, []), []), (RED_BAG, [])]:
            for function in (count_assemblies, count_groves, first_joints):
                keeps_the_rules(self, function, bag, roots)
            keeps_the_rules(self, count_beginning, bag, roots, ["p"])

    def test_thirty_joints(self):
        """Of counts of many figures: those of the first joints add up, and some grove is there if one can be built."""
        start = time.monotonic()
        chance = random.Random(260)
        greatest = 0
        for _ in range(300):
            ladder = some_ladder(chance, 5, 8, 8)
            bag, roots = some_bag(chance, ladder, 30, chance.randint(1, 8))
            count = count_groves(bag, list(roots))
            self.assertIs(count > 0, can_build(ladder_of(bag.table()), bag, roots))
            self.assertLessEqual(count, count_assemblies(bag, list(roots)))
            if count > 0:
                greatest = max(greatest, count)
                self.assertEqual(sum(number for _, number in first_joints(bag, list(roots))), count)
        self.assertGreater(greatest, 10 ** 20)
        bag, roots = some_joints(chance, nested_table(chance), 30)
        self.assertEqual(sum(number for _, number in first_joints(bag, roots)), count_groves(bag, roots))
        self.assertLess(time.monotonic() - start, 40)

    def test_hundreds_of_figures(self):
        """A ladder of many arrows, through each of which most of the joints stand."""
        many = 8
        table = Table([f"s{n}" for n in range(many)], [f"p{n}" for n in range(many)],
                      [(f"s{n}", f"p{k}") for n in range(many) for k in range(n, many)])
        bag = Bag(table, [(f"j{n}", "s0", ("p7",) * (n < 29)) for n in range(30)])
        orders = 1
        for number in range(2, 31):
            orders *= number
        self.assertEqual(count_assemblies(bag, ["p7"]), orders)
        self.assertEqual(count_groves(bag, ["p7"]), orders // 30)
