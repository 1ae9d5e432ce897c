import time
import unittest
import unittest.mock

from kindredbush import plainwalks
from kindredbush.bags import Bag
from kindredbush.deeds import all_deeds, done
from kindredbush.errors import TooGreat, UnlikeGroves
from kindredbush.groves import Grove
from kindredbush.plainwalks import fewest_by_walks, reached, walk_by_walks, within
from kindredbush.scripts import first_bad, price, walked
from kindredbush.tables import Table
from tests.support import BAG, BUSH_TABLE, DOMINO_TABLE, GROVE, OTHER_GROVE, RING_TABLE, keeps_the_rules, raises
from tests.test_deeds import EMPTY, STUCK
from tests.test_groves import all_groves
from tests.test_pieces import CHAIN, FREE, some_groves

GROVES = [GROVE, CHAIN, STUCK, EMPTY] + some_groves(9, 8, 4) + some_groves(10, 4, 5)
# The groves of S7.5 and S7.6, for bad tables.
RING_BAG = Bag(RING_TABLE, [("j1", "a", ()), ("j2", "b", ()), ("j3", "c", ())])
RING_ROOTS = ("y", "z", "x")
RING_ONE = Grove(RING_BAG, RING_ROOTS, [("j1",), ("j2",), ("j3",)])
RING_OTHER = Grove(RING_BAG, RING_ROOTS, [("j2",), ("j3",), ("j1",)])
DOMINO_BAG = Bag(DOMINO_TABLE, [("c1", "c", ("p",)), ("a1", "a", ("w", "p")), ("b1", "b", ("q",)), ("a2", "a", ()),
                                ("b2", "b", ())])
DOMINO_ONE = Grove(DOMINO_BAG, ["q"], [("c1", ("a1", ("a2",), ("b1", ("b2",))))])
DOMINO_OTHER = Grove(DOMINO_BAG, ["q"], [("b1", ("a1", ("c1", ("b2",)), ("a2",)))])


def key_of(grove):
    """Where each joint comes in the bag, place by place."""
    names = grove.bag().names()
    return [names.index(name) for place, name in grove.rows()]


def plain_coins(f):
    """S4.8 word by word: a list of the pairs (grove, coins), until a price and the next one bring nothing new."""
    found = [(f, 0)]
    coins = 0
    while coins <= max(known for _, known in found) + 2:
        coins += 1
        for grove, known in list(found):
            for deed in all_deeds(grove):
                if known + (1 if deed[0] == "hang" else 2) == coins:
                    after = done(grove, deed)
                    if all(after != other for other, _ in found):
                        found.append((after, coins))
    return sorted(found, key=lambda pair: (pair[1], key_of(pair[0])))


def plain_coins_within(f, most):
    return [pair for pair in plain_coins(f) if pair[1] <= most]


def free_grove(*branches):
    """A grove of joints with so many branches, all of which fit all places."""
    bag = Bag(FREE, [(f"j{number}", "k", ("l",) * many) for number, many in enumerate(branches)])
    left = [name for _, name in sorted((-many, f"j{number}") for number, many in enumerate(branches))]

    def grown():
        name = left.pop(0)
        return (name, *[grown() for _ in bag.branches(name)])

    roots = len(branches) - sum(branches)
    return Grove(bag, ["l"] * roots, [grown() for _ in range(roots)])


class Within(unittest.TestCase):
    def test_word_by_word(self):
        for grove in GROVES:
            wanted = plain_coins(grove)
            self.assertEqual(reached(grove), [other for other, _ in wanted])
            for most in range(6):
                self.assertEqual(within(grove, most), [pair for pair in wanted if pair[1] <= most])
                for other, coins in wanted:
                    self.assertEqual(fewest_by_walks(grove, other, most), coins if coins <= most else None)
                    script = walk_by_walks(grove, other, most)
                    if coins > most:
                        self.assertIsNone(script)
                    else:
                        self.assertIs(type(script), list)
                        self.assertIsNone(first_bad(grove, script))
                        self.assertEqual((walked(grove, script), price(script)), (other, coins))
                        here = grove
                        for deed in script:
                            self.assertIn(deed, all_deeds(here))
                            here = done(here, deed)

    def test_example(self):
        """The three deeds of S4.9."""
        hung = Grove(BAG, ["x"], [("p", ("r",), ("q", ("t",)))])
        moved = Grove(BAG, ["x"], [("p", ("t",), ("q", ("r",)))])
        self.assertEqual(within(GROVE, 0), [(GROVE, 0)])
        self.assertEqual(within(GROVE, 1), [(GROVE, 0), (hung, 1)])
        self.assertEqual(within(GROVE, 2), [(GROVE, 0), (hung, 1), (moved, 2), (OTHER_GROVE, 2)])
        self.assertEqual(fewest_by_walks(GROVE, OTHER_GROVE, 2), 2)
        self.assertIsNone(fewest_by_walks(GROVE, OTHER_GROVE, 1))
        self.assertEqual(walk_by_walks(GROVE, OTHER_GROVE, 5), [("stretch", ("root", 0), ("p", 0), ("p", 0), ("q", 0))])
        self.assertIsNone(walk_by_walks(GROVE, OTHER_GROVE, 1))
        self.assertEqual(walk_by_walks(GROVE, GROVE, 0), [])

    def test_both_ways(self):
        for grove in GROVES:
            for other, coins in within(grove, 5):
                self.assertEqual(fewest_by_walks(other, grove, 5), coins)

    def test_the_order_by_the_bag(self):
        """Names come by the bag, not as strings."""
        bag = Bag(FREE, [("z", "k", ()), ("a", "k", ()), ("m", "k", ())])
        grove = Grove(bag, ["l"] * 3, [("a",), ("z",), ("m",)])
        self.assertEqual([(["".join(bush) for bush in other.bushes()], coins) for other, coins in within(grove, 5)],
                         [(["a", "z", "m"], 0), (["z", "a", "m"], 1), (["a", "m", "z"], 1), (["m", "z", "a"], 1),
                          (["z", "m", "a"], 2), (["m", "a", "z"], 2)])

    def test_no_script(self):
        """Whatever the table is: S7.5, S7.6, and a grove at which no deed can be done."""
        for grove in (STUCK, EMPTY, RING_ONE, RING_OTHER):
            self.assertEqual(reached(grove), [grove])
            self.assertEqual(within(grove, 5), [(grove, 0)])
        self.assertIsNone(fewest_by_walks(RING_ONE, RING_OTHER, 5))
        self.assertIsNone(walk_by_walks(RING_ONE, RING_OTHER, 5))
        self.assertEqual(fewest_by_walks(DOMINO_ONE, DOMINO_OTHER, 5), 5)
        self.assertIsNone(fewest_by_walks(DOMINO_ONE, DOMINO_OTHER, 4))
        self.assertEqual(price(walk_by_walks(DOMINO_ONE, DOMINO_OTHER, 5)), 5)


class Errors(unittest.TestCase):
    def test_unlike_groves(self):
        others = [STUCK, Grove(BAG, ["y"], GROVE.bushes()), EMPTY, Grove(Bag(BUSH_TABLE, BAG.joints()[::-1]), ["x"],
                                                                         GROVE.bushes())]
        for other in others + [Grove(Bag(Table(["b", "a"], ["x", "y"], BUSH_TABLE.fits()), BAG.joints()), ["x"],
                                     GROVE.bushes())]:
            for function in (fewest_by_walks, walk_by_walks):
                for most in (0, 5):
                    raises(self, UnlikeGroves, {}, function, GROVE, other, most)
                    raises(self, UnlikeGroves, {}, function, other, GROVE, most)

    def test_too_great(self):
        """720 groves of six joints at six roots, 600 at five roots, 480 at four."""
        six = free_grove(0, 0, 0, 0, 0, 0)
        raises(self, TooGreat, {}, reached, six)
        self.assertEqual([len(within(six, most)) for most in range(4)], [1, 16, 101, 326])
        raises(self, TooGreat, {}, within, six, 4)
        raises(self, TooGreat, {}, within, six, 5)
        five = free_grove(1, 0, 0, 0, 0, 0)
        self.assertEqual(len(all_groves(five.bag(), five.roots())), 600)
        raises(self, TooGreat, {}, reached, five)
        four = free_grove(2, 0, 0, 0, 0, 0)
        self.assertEqual(len(reached(four)), 480)
        self.assertEqual(len(all_groves(four.bag(), four.roots())), 480)

    def test_just_too_great(self):
        """The same with another limit than 500, so that there are just so many groves, or one more."""
        self.assertEqual(plainwalks.MOST_GROVES, 500)
        many = len(reached(GROVE))
        for limit, most in [(many, 9), (many - 1, 9), (len(within(GROVE, 1)), 1), (len(within(GROVE, 1)) - 1, 1)]:
            with unittest.mock.patch.object(plainwalks, "MOST_GROVES", limit):
                if limit == many:
                    self.assertEqual(len(reached(GROVE)), many)
                else:
                    raises(self, TooGreat, {}, reached, GROVE)
                if len(plain_coins_within(GROVE, most)) <= limit:
                    self.assertEqual(len(within(GROVE, most)), limit)
                else:
                    raises(self, TooGreat, {}, within, GROVE, most)
                self.assertEqual(fewest_by_walks(GROVE, OTHER_GROVE, 5), 2)

    def test_never_too_great_between_two(self):
        six = free_grove(0, 0, 0, 0, 0, 0)
        last = Grove(six.bag(), six.roots(), [("j1",), ("j2",), ("j3",), ("j4",), ("j5",), ("j0",)])
        self.assertEqual(fewest_by_walks(six, last, 5), 5)
        self.assertEqual(price(walk_by_walks(six, last, 5)), 5)
        self.assertIsNone(fewest_by_walks(six, last, 4))


class Rules(unittest.TestCase):
    def test_rules(self):
        for call in [(within, GROVE, 2), (reached, GROVE), (fewest_by_walks, GROVE, OTHER_GROVE, 5),
                     (walk_by_walks, GROVE, OTHER_GROVE, 5), (walk_by_walks, GROVE, GROVE, 0),
                     (walk_by_walks, RING_ONE, RING_OTHER, 3), (within, EMPTY, 0)]:
            keeps_the_rules(self, *call)

    def test_six_joints(self):
        start = time.monotonic()
        for branches in [(1, 1, 1, 1, 1, 0), (2, 2, 1, 0, 0, 0), (5, 0, 0, 0, 0, 0), (3, 1, 0, 0, 0, 0)]:
            grove = free_grove(*branches)
            groves = reached(grove)
            self.assertEqual(len(groves), 120 * (6 - sum(branches)))
            for other in (groves[-1], groves[60]):
                self.assertEqual(fewest_by_walks(grove, other, 5), price(walk_by_walks(grove, other, 5)))
        self.assertLess(time.monotonic() - start, 20)
