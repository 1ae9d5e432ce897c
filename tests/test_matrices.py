import itertools
import math
import random
import time
import unittest
from fractions import Fraction

from kindredbush.bags import Bag, colour_of, places_of
from kindredbush.flows import flows
from kindredbush.ladders import Ladder, table_of
from kindredbush.matrices import determinant, flat_matrix, fraction_determinant
from tests.support import keeps_the_rules
from tests.test_assemblies import all_assemblies
from tests.test_building import EMPTY as EMPTY_BAG
from tests.test_building import FULL, LOW, OWN, further_ladder
from tests.test_building import LADDER as BUILDING_LADDER
from tests.test_flows import some_cases

# The ladder, the bag and the roots of S8.7.
LADDER = Ladder(["k", "l"], [("k", "l")], [("red", "k"), ("blue", "l")], [("rim", "k"), ("bud", "l")])
TABLE = table_of(LADDER, ["red", "blue"], ["rim", "bud"])
BAG = Bag(TABLE, [("p", "red", ("bud", "bud")), ("q", "blue", ()), ("x", "red", ())])
ROOTS = ["rim"]


def plain_determinant(rows):
    """The sum over all permutations."""
    total = 0
    for order in itertools.permutations(range(len(rows))):
        crossed = sum(one > other for one, other in itertools.combinations(order, 2))
        total += (-1) ** crossed * math.prod(row[at] for row, at in zip(rows, order))
    return total


def plain_pair(fraction):
    return (fraction.numerator, fraction.denominator)


def plain_numbers(ladder, bag, roots):
    """S8.1 word by word: a dict of n(u)."""
    many = flows(ladder, bag, roots)
    return {u: sum(ladder.stem_home(stem) == u for _, stem, _ in bag.joints())
            + sum(flow for (_, end), flow in zip(ladder.arrows(), many) if end == u) for u in ladder.knots()}


def plain_is_possible(ladder, bag, roots):
    """S8.2: no flow is below 0, and each piece has as many joints as places."""
    homes = [ladder.stem_home(stem) for _, stem, _ in bag.joints()]
    spots = [ladder.place_home(colour_of(bag, roots, place)) for place in places_of(bag, roots)]
    return min(flows(ladder, bag, roots), default=0) >= 0 and all(
        sum(home in piece for home in homes) == sum(spot in piece for spot in spots) for piece in ladder.pieces())


def plain_matrix(ladder, bag, roots):
    """S8.3 word by word."""
    if not plain_is_possible(ladder, bag, roots):
        return None
    n = plain_numbers(ladder, bag, roots)
    many = dict(zip(ladder.arrows(), flows(ladder, bag, roots)))
    knots = [u for u in ladder.knots() if n[u] > 0]
    return knots, [[(n[u] if u == v else 0) - many.get((v, u), 0) - sum(
        ladder.stem_home(stem) == u and ladder.place_home(colour) == v
        for _, stem, branches in bag.joints() for colour in branches) for v in knots] for u in knots]


def some_rows(chance, many, most):
    return [[chance.randint(-most, most) for _ in range(many)] for _ in range(many)]


class Determinants(unittest.TestCase):
    def test_word_by_word(self):
        chance = random.Random(210)
        for many in range(7):
            for most in (1, 2, 9, 10 ** 40):
                for _ in range(12):
                    rows = some_rows(chance, many, most)
                    self.assertEqual(determinant(rows), plain_determinant(rows))

    def test_all_small_ones(self):
        for entries in itertools.product((-1, 0, 2), repeat=4):
            self.assertEqual(determinant([entries[:2], entries[2:]]), plain_determinant([entries[:2], entries[2:]]))
        for entries in itertools.product((0, 1), repeat=9):
            rows = [list(entries[:3]), list(entries[3:6]), list(entries[6:])]
            self.assertEqual(determinant(rows), plain_determinant(rows))

    def test_no_rows(self):
        self.assertEqual((determinant([]), determinant(())), (1, 1))
        self.assertEqual((determinant([[0]]), determinant([[-7]])), (0, -7))

    def test_rows_of_noughts_and_sums(self):
        chance = random.Random(211)
        for many in (1, 2, 5, 12, 32):
            rows = some_rows(chance, many, 10 ** 6)
            rows[chance.randrange(many)] = [0] * many
            self.assertEqual(determinant(rows), 0)
            columns = some_rows(chance, many, 10 ** 6)
            at = chance.randrange(many)
            self.assertEqual(determinant([row[:at] + [0] + row[at + 1:] for row in columns]), 0)
            if many > 2:
                rows = some_rows(chance, many, 10 ** 6)
                rows[many - 1] = [one - 3 * other for one, other in zip(rows[0], rows[1])]
                chance.shuffle(rows)
                self.assertEqual(determinant(rows), 0)

    def test_orders_of_rows(self):
        """Rows of one entry each, which is not in the diagonal."""
        for many in range(1, 6):
            for order in itertools.permutations(range(many)):
                rows = [[(at == place) * (at + 2) for at in range(many)] for place in order]
                self.assertEqual(determinant(rows), plain_determinant(rows))

    def test_thirty_two_rows(self):
        """Of a product of two triangles the determinant is known."""
        chance = random.Random(212)
        start = time.monotonic()
        for most in (3, 10 ** 18):
            lower = [[chance.randint(-most, most) if at < row else int(at == row) for at in range(32)] for row in range(32)]
            upper = [[chance.randint(-most, most) if at >= row else 0 for at in range(32)] for row in range(32)]
            rows = [[sum(lower[row][k] * upper[k][at] for k in range(32)) for at in range(32)] for row in range(32)]
            wanted = math.prod(upper[k][k] for k in range(32))
            self.assertEqual(determinant(rows), wanted)
            self.assertEqual(determinant(rows[1:] + rows[:1]), -wanted)
        rows = some_rows(chance, 32, 10 ** 40)
        self.assertEqual(determinant(rows), determinant([list(row) for row in zip(*rows)]))
        self.assertLess(time.monotonic() - start, 20)


class Fractions(unittest.TestCase):
    def test_word_by_word(self):
        chance = random.Random(213)
        for many in range(6):
            for most in (2, 12, 10 ** 40):
                for _ in range(12):
                    rows = [[(chance.randint(-most, most), chance.randint(1, most)) for _ in range(many)]
                            for _ in range(many)]
                    wanted = plain_determinant([[Fraction(*entry) for entry in row] for row in rows])
                    self.assertEqual(fraction_determinant(rows), plain_pair(Fraction(wanted)))

    def test_examples(self):
        self.assertEqual(fraction_determinant([]), (1, 1))
        self.assertEqual(fraction_determinant([[(0, 5)]]), (0, 1))
        self.assertEqual(fraction_determinant([[(4, 6)]]), (2, 3))
        self.assertEqual(fraction_determinant([[(-4, 6)]]), (-2, 3))
        self.assertEqual(fraction_determinant([[(6, 3)]]), (2, 1))
        self.assertEqual(fraction_determinant([[(1, 2), (-1, 2)], [(0, 1), (1, 1)]]), (1, 2))
        self.assertEqual(fraction_determinant(([(1, 2), (1, 3)], ((3, 6), (2, 6)))), (0, 1))

    def test_thirty_two_rows(self):
        chance = random.Random(214)
        start = time.monotonic()
        rows = [[(chance.randint(-99, 99), chance.randint(1, 99)) for _ in range(32)] for _ in range(32)]
        a, b = fraction_determinant(rows)
        self.assertEqual((math.gcd(a, b), b > 0), (1, True))
        self.assertEqual(fraction_determinant([list(row) for row in zip(*rows)]), (a, b))
        self.assertEqual(fraction_determinant(rows[1:] + rows[:1]), (-a, b))
        diagonal = [[(10 ** 39 + k, 10 ** 39 - k) if k == at else (0, 7) for at in range(32)] for k in range(32)]
        wanted = math.prod([Fraction(10 ** 39 + k, 10 ** 39 - k) for k in range(32)])
        self.assertEqual(fraction_determinant(diagonal), plain_pair(wanted))
        self.assertLess(time.monotonic() - start, 30)


class FlatMatrix(unittest.TestCase):
    def test_word_by_word(self):
        met = [0, 0]
        chance = random.Random(215)
        for joints in range(1, 10):
            for ladder, bag, roots in some_cases(joints + 216, 60, joints):
                for one in (ladder, further_ladder(chance, ladder)):
                    wanted = plain_matrix(one, bag, roots)
                    met[wanted is not None] += 1
                    self.assertEqual(flat_matrix(one, bag, list(roots)), wanted)
        self.assertGreater(min(met), 50)

    def test_there_is_an_assembly(self):
        met = [0, 0]
        for joints in range(1, 6):
            for ladder, bag, roots in some_cases(joints + 230, 40, joints):
                there = any(True for _ in all_assemblies(bag, roots))
                met[there] += 1
                self.assertIs(flat_matrix(ladder, bag, roots) is not None, there)
        self.assertGreater(min(met), 30)

    def test_examples(self):
        self.assertEqual(flat_matrix(LADDER, BAG, ROOTS), (["k", "l"], [[2, -2], [-1, 2]]))
        self.assertEqual(flat_matrix(BUILDING_LADDER, FULL, ["y", "y"]), (["u", "v"], [[1, 0], [-1, 2]]))
        self.assertEqual(flat_matrix(BUILDING_LADDER, OWN, ["y"]), (["u", "v"], [[0, 0], [0, 1]]))

    def test_no_assembly(self):
        """A flow below 0, a joint too many, a root too many."""
        self.assertIsNone(flat_matrix(BUILDING_LADDER, LOW, ["x", "x"]))
        self.assertIsNone(flat_matrix(LADDER, BAG, []))
        self.assertIsNone(flat_matrix(LADDER, BAG, ["rim", "rim"]))
        self.assertIsNone(flat_matrix(LADDER, BAG, ["bud", "bud"]))
        apart = Ladder(["k", "l"], [], LADDER.stem_homes(), LADDER.place_homes())
        bag = Bag(table_of(apart, ["red", "blue"], ["rim", "bud"]), [("p", "red", ()), ("q", "blue", ())])
        self.assertIsNone(flat_matrix(apart, bag, ["rim", "rim"]))
        self.assertEqual(flat_matrix(apart, bag, ["bud", "rim"]), (["k", "l"], [[1, 0], [0, 1]]))

    def test_no_rows(self):
        self.assertEqual(flat_matrix(LADDER, Bag(TABLE, []), []), ([], []))
        self.assertEqual(flat_matrix(BUILDING_LADDER, EMPTY_BAG, []), ([], []))
        none = Ladder([], [], [], [])
        self.assertEqual(flat_matrix(none, Bag(table_of(none, [], []), []), []), ([], []))


class Rules(unittest.TestCase):
    def test_rules(self):
        for call in [(determinant, [[1, 2], [3, 4]]), (determinant, []), (fraction_determinant, [[(1, 2), (3, 4)],
                     [(5, 6), (7, 8)]]), (flat_matrix, LADDER, BAG, ROOTS), (flat_matrix, LADDER, Bag(TABLE, []), []),
                     (flat_matrix, LADDER, BAG, [])]:
            keeps_the_rules(self, *call)
