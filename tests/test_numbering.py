import random
import time
import unittest

from kindredbush.bags import Bag
from kindredbush.counting import count_beginning, count_groves, first_joints
from kindredbush.errors import TooGreat
from kindredbush.groves import Grove
from kindredbush.numbering import drawn_grove, grove_at, groves_from, next_grove, number_of
from kindredbush.tables import Table
from tests.support import keeps_the_rules, raises
from tests.test_coins import nested_table, some_joints
from tests.test_counting import good_cases, row_of
from tests.test_groves import all_groves
from tests.test_matrices import BAG, ROOTS, TABLE

ONE, OTHER = Grove(BAG, ROOTS, [("p", ("q",), ("x",))]), Grove(BAG, ROOTS, [("p", ("x",), ("q",))])


def plain_order(bag, roots):
    """S8.6 word by word."""
    return sorted(all_groves(bag, roots), key=lambda grove: [bag.names().index(name) for name in row_of(grove)])


class Numbers(unittest.TestCase):
    def test_all(self):
        met = [0, 0]
        chance = random.Random(300)
        for bag, roots in good_cases(301, 6, 24):
            wanted = plain_order(bag, roots)
            met[len(wanted) > 1] += 1
            raises(self, TooGreat, {}, grove_at, bag, roots, len(wanted))
            raises(self, TooGreat, {}, grove_at, bag, roots, len(wanted) + 10 ** 40)
            for number, grove in list(enumerate(wanted))[:30] + list(enumerate(wanted))[-2:]:
                self.assertEqual(grove_at(bag, roots, number), grove)
                self.assertEqual(number_of(grove), number)
                self.assertEqual(next_grove(grove), wanted[number + 1] if number + 1 < len(wanted) else None)
            number, many = chance.randrange(len(wanted) + 3), chance.randrange(12)
            self.assertEqual(groves_from(bag, roots), wanted[:10])
            self.assertEqual(groves_from(bag, roots, number=number), wanted[number:number + 10])
            self.assertEqual(groves_from(bag, roots, many=many), wanted[:many])
            self.assertEqual(groves_from(bag, roots, number=number, many=many), wanted[number:number + many])
            self.assertEqual(groves_from(bag, roots, many=50, number=len(wanted) // 2),
                             wanted[len(wanted) // 2:len(wanted) // 2 + 50])
            drawn = chance.randrange(10 ** 60)
            self.assertEqual(drawn_grove(bag, roots, drawn), wanted[drawn % len(wanted)] if wanted else None)
        self.assertGreater(min(met), 40)

    def test_examples(self):
        self.assertEqual(groves_from(BAG, ROOTS), [ONE, OTHER])
        self.assertEqual([grove_at(BAG, ROOTS, 0), grove_at(BAG, ("rim",), 1)], [ONE, OTHER])
        self.assertEqual([row_of(ONE), row_of(OTHER)], [["p", "q", "x"], ["p", "x", "q"]])
        self.assertEqual([number_of(ONE), number_of(OTHER)], [0, 1])
        self.assertEqual([next_grove(ONE), next_grove(OTHER)], [OTHER, None])
        self.assertEqual([drawn_grove(BAG, ROOTS, number) for number in (0, 1, 2, 10 ** 59 + 1)],
                         [ONE, OTHER, ONE, OTHER])
        self.assertEqual(groves_from(BAG, ROOTS, number=1, many=1), [OTHER])

    def test_at_the_last_one_and_beyond(self):
        raises(self, TooGreat, {}, grove_at, BAG, ROOTS, 2)
        raises(self, TooGreat, {}, grove_at, BAG, ROOTS, 10 ** 40)
        for number in (2, 3, 10 ** 40):
            self.assertEqual(groves_from(BAG, ROOTS, number=number), [])
        self.assertEqual(groves_from(BAG, ROOTS, many=0), [])
        self.assertEqual(groves_from(BAG, ROOTS, number=1, many=50), [OTHER])

    def test_no_grove(self):
        for roots in ([], ["rim", "rim"], ["bud", "bud", "bud"]):
            raises(self, TooGreat, {}, grove_at, BAG, roots, 0)
            self.assertEqual(groves_from(BAG, roots), [])
            self.assertIsNone(drawn_grove(BAG, roots, 0))
            self.assertIsNone(drawn_grove(BAG, roots, 10 ** 60 - 1))
        loop = Bag(TABLE, [("a", "red", ("rim",))])
        raises(self, TooGreat, {}, grove_at, loop, [], 0)
        self.assertIsNone(drawn_grove(loop, [], 5))

    def test_nothing(self):
        bag = Bag(TABLE, [])
        grove = Grove(bag, [], [])
        self.assertEqual([grove_at(bag, [], 0), drawn_grove(bag, [], 77)], [grove, grove])
        self.assertEqual((groves_from(bag, []), number_of(grove), next_grove(grove)), ([grove], 0, None))
        raises(self, TooGreat, {}, grove_at, bag, [], 1)
        raises(self, TooGreat, {}, grove_at, bag, ["rim"], 0)

    def test_the_order_of_the_bag(self):
        """Not that of the names."""
        table = Table(["k"], ["l"], [("k", "l")])
        bag = Bag(table, [("z", "k", ()), ("m", "k", ("l",)), ("a", "k", ())])
        self.assertEqual([row_of(grove) for grove in groves_from(bag, ["l", "l"])],
                         [["z", "m", "a"], ["m", "z", "a"], ["m", "a", "z"], ["a", "m", "z"]])


class Great(unittest.TestCase):
    def test_thirty_joints(self):
        chance = random.Random(310)
        start = time.monotonic()
        for _ in range(4):
            bag, roots = some_joints(chance, nested_table(chance), 30)
            count = count_groves(bag, roots)
            for number in [0, count - 1, count // 2] + [chance.randrange(count) for _ in range(3)]:
                grove = grove_at(bag, roots, number)
                self.assertEqual(number_of(grove), number)
                found = groves_from(bag, roots, number=number, many=50)
                self.assertEqual(len(found), min(50, count - number))
                self.assertEqual(found[0], grove)
                self.assertEqual([number_of(one) for one in found[-2:]], [number + len(found) + k for k in (-2, -1)][-len(found):])
                self.assertEqual(next_grove(grove), found[1] if len(found) > 1 else None)
                row = row_of(grove)
                self.assertEqual([count_beginning(bag, roots, row), count_beginning(bag, roots, row + row[:1])], [1, 0])
            raises(self, TooGreat, {}, grove_at, bag, roots, count)
            drawn = chance.randrange(10 ** 60)
            self.assertEqual(number_of(drawn_grove(bag, roots, drawn)), drawn % count)
            ahead = 0
            for name, number in first_joints(bag, roots):
                if number:
                    self.assertEqual(grove_at(bag, roots, ahead).walk()[0], name)
                ahead += number
        self.assertLess(time.monotonic() - start, 40)

    def test_one_colour(self):
        """Thirty joints and eight roots, all of which fit one another."""
        table = Table(["k"], ["l"], [("k", "l")])
        bag = Bag(table, [(f"j{n}", "k", ("l",) * (n % 2 * 2 - (n in (1, 3, 5, 7, 9, 11, 13, 15)))) for n in range(30)])
        roots = ["l"] * (30 - sum(len(bag.branches(name)) for name in bag.names()))
        self.assertEqual(len(roots), 8)
        count = count_groves(bag, roots)
        for number in (0, count // 3, count - 1):
            self.assertEqual(number_of(grove_at(bag, roots, number)), number)


class Rules(unittest.TestCase):
    def test_rules(self):
        for call in [(grove_at, BAG, ROOTS, 1), (number_of, OTHER), (next_grove, ONE), (next_grove, OTHER),
                     (groves_from, BAG, ROOTS), (drawn_grove, BAG, ROOTS, 5), (drawn_grove, BAG, [], 5),
                     (lambda bag, roots: groves_from(bag, roots, number=1, many=2), BAG, ROOTS)]:
            keeps_the_rules(self, *call)

    def test_by_keywords_alone(self):
        self.assertRaises(TypeError, groves_from, BAG, ROOTS, 0)
