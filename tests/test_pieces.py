import itertools
import random
import unittest

from kindredbush.bags import Bag, fits_there, places_of
from kindredbush.groves import Grove
from kindredbush.pieces import is_deed, is_stretch, stretch_joints
from kindredbush.tables import Table
from tests.support import BUSH_TABLE, GROVE, ODD_VALUES, cases, keeps_the_rules, some_bag, some_ladder
from tests.test_groves import WIDE_BAG, WIDE_BUSHES, WIDE_ROOTS, all_groves, plain_above, spots_of, walk_of

FREE = Table(["k"], ["l"], [("k", "l")])
# The second example of S4.9.
CHAIN_BAG = Bag(FREE, [("k", "k", ("l",)), ("l", "k", ("l",)), ("m", "k", ("l",)), ("n", "k", ())])
CHAIN = Grove(CHAIN_BAG, ["l"], [("k", ("l", ("m", ("n",))))])
WIDE = Grove(WIDE_BAG, WIDE_ROOTS, WIDE_BUSHES)
EMPTY = Grove(Bag(FREE, []), [], [])


def chain_of(names):
    """A grove of one bush, in which each joint but the last one has the next one at its only branch."""
    bag = Bag(FREE, [(name, "k", ("l",)) for name in names[:-1]] + [(names[-1], "k", ())])
    bush = (names[-1],)
    for name in names[-2::-1]:
        bush = (name, bush)
    return Grove(bag, ["l"], [bush])


def bushes_at(grove):
    """The bushes of a grove by their places."""
    return dict(spot for number, bush in enumerate(grove.bushes()) for spot in spots_of(("root", number), bush))


def plain_stretch(grove, s, t):
    return s == t or plain_above(grove, s, t)


def plain_joints(grove, s, t):
    """S4.1 word by word."""
    bushes = bushes_at(grove)
    return [name for name in walk_of(bushes[s]) if name not in walk_of(bushes[t])]


def plain_shape(grove, deed):
    """S4.2 word by word, but for what fits."""
    if deed[0] == "hang":
        return plain_apart(grove, deed[1], deed[2])
    _, s, t, u, v = deed
    if not plain_stretch(grove, s, t) or not plain_stretch(grove, u, v):
        return False
    one, other = plain_joints(grove, s, t), plain_joints(grove, u, v)
    if set(one) & set(other) or not one + other:
        return False
    return bool(one and other) or plain_apart(grove, s, u)


def plain_apart(grove, one, other):
    return one != other and not plain_above(grove, one, other) and not plain_above(grove, other, one)


class Node:
    """A joint, or a mark at one end of a stretch, with what hangs at its branches."""

    def __init__(self, name, parts):
        self.name = name
        self.parts = parts


def marked(grove, place, marks):
    """What hangs at a place, with the marks that stand there ahead of it; made anew."""
    name = grove.joint(place)
    node = Node(name, [marked(grove, (name, n), marks) for n in range(len(grove.bag().branches(name)))])
    for mark in reversed(marks.get(place, [])):
        mark.parts = [node]
        node = mark
    return node


def plain_rows(grove, deed):
    """What stands where behind a deed, by S4.2: bushes or stretches, with marks at their ends, change places."""
    marks = {}
    ends = {}
    # What begins at a place comes below what ends there; an empty stretch is both at once.
    for word in ("end", "begin"):
        for number, place in enumerate(deed[1:]):
            if word == ("begin" if len(deed) == 3 or number % 2 == 0 else "end"):
                mark = Node((word, number // (len(deed) // 2)), [])
                ends[mark.name] = mark
                marks.setdefault(place, []).append(mark)
    if len(deed) == 5:
        for number in range(2):
            if deed[1 + 2 * number] == deed[2 + 2 * number]:
                spot = marks[deed[1 + 2 * number]]
                begin, end = ends[("begin", number)], ends[("end", number)]
                spot.remove(end)
                spot.insert(spot.index(begin) + 1, end)
    tops = [marked(grove, ("root", number), marks) for number in range(len(grove.roots()))]
    exchange(ends, len(deed) == 5)
    rows = {}
    for number, node in enumerate(tops):
        put_down(node, ("root", number), rows)
    return rows


def holder_of(node, target):
    """The node right above another one, and the number of the branch."""
    for number, part in enumerate(node.parts):
        if part is target:
            return node, number
        found = holder_of(part, target)
        if found:
            return found
    return None


def exchange(ends, with_ends):
    if not with_ends:
        one, other = ends[("begin", 0)], ends[("begin", 1)]
        one.parts, other.parts = other.parts, one.parts
        return
    first = (ends[("begin", 0)], ends[("end", 0)])
    second = (ends[("begin", 1)], ends[("end", 1)])
    tops = [begin.parts[0] for begin, end in (first, second)]
    bottoms = [holder_of(begin, end) for begin, end in (first, second)]
    for (begin, end), top, (node, number), (new_begin, new_end) in zip(
            (first, second), tops, bottoms, (second, first)):
        if top is end:
            new_begin.parts[0] = new_end
        else:
            new_begin.parts[0] = top
            node.parts[number] = new_end


def put_down(node, place, rows):
    while node.name[0] in ("begin", "end"):
        node = node.parts[0]
    assert place not in rows
    rows[place] = node.name
    for number, part in enumerate(node.parts):
        put_down(part, (node.name, number), rows)


def plain_deed(grove, deed):
    """Whether what has the form of a deed, with places, can be done."""
    if not plain_shape(grove, deed):
        return False
    return all(fits_there(grove.bag(), grove.roots(), name, place) for place, name in plain_rows(grove, deed).items())


def all_tries(grove):
    """All tuples of the forms with places."""
    places = places_of(grove.bag(), grove.roots())
    for pair in itertools.product(places, repeat=2):
        yield ("hang", *pair)
    for four in itertools.product(places, repeat=4):
        yield ("stretch", *four)


def some_groves(seed, number, joints):
    """Groves of different bags over the tables of ladders."""
    chance = random.Random(seed)
    found = []
    while len(found) < number:
        ladder = some_ladder(chance, chance.randint(1, 4), chance.randint(1, 3), chance.randint(1, 3))
        bag, roots = some_bag(chance, ladder, joints, chance.randint(1, 2))
        groves = all_groves(bag, roots)
        if groves:
            found.append(chance.choice(groves))
    return found


class Stretches(unittest.TestCase):
    def test_word_by_word(self):
        for grove in [GROVE, CHAIN, WIDE] + some_groves(1, 10, 5):
            places = places_of(grove.bag(), grove.roots())
            for s, t in itertools.product(places, repeat=2):
                self.assertIs(is_stretch(grove, s, t), plain_stretch(grove, s, t))
                if plain_stretch(grove, s, t):
                    self.assertEqual(stretch_joints(grove, s, t), plain_joints(grove, s, t))

    def test_examples(self):
        self.assertEqual(stretch_joints(GROVE, ("root", 0), ("q", 0)), ["p", "q", "r"])
        self.assertEqual(stretch_joints(GROVE, ("root", 0), ("p", 0)), ["p", "r"])
        self.assertEqual(stretch_joints(GROVE, ("p", 1), ("p", 1)), [])
        self.assertEqual(stretch_joints(GROVE, ("p", 0), ("q", 0)), ["q"])
        self.assertIs(is_stretch(GROVE, ("p", 0), ("p", 1)), False)
        self.assertIs(is_stretch(GROVE, ("q", 0), ("p", 0)), False)
        self.assertIs(is_stretch(GROVE, ("q", 0), ("q", 0)), True)

    def test_anything(self):
        odd = [("root", 1), ("t", 0), ("p", 2), ("p", -1), ("p", True), ["p", 0], ("root", False), ("root",)]
        for value in cases(self, ODD_VALUES + odd):
            for other in (("root", 0), value, ("q", 0)):
                self.assertIs(is_stretch(GROVE, value, other), False)
                self.assertIs(is_stretch(GROVE, other, value), False)
                self.assertIs(is_stretch(EMPTY, other, value), False)


class Deeds(unittest.TestCase):
    def test_word_by_word(self):
        for grove in [GROVE, CHAIN] + some_groves(2, 12, 4) + some_groves(3, 4, 5):
            for deed in all_tries(grove):
                self.assertIs(is_deed(grove, deed), plain_deed(grove, deed), deed)

    def test_example(self):
        for deed in [("hang", ("p", 0), ("p", 1)), ("hang", ("p", 1), ("p", 0)),
                     ("stretch", ("root", 0), ("p", 0), ("p", 0), ("q", 0)),
                     ("stretch", ("p", 0), ("q", 0), ("root", 0), ("p", 0)),
                     ("stretch", ("p", 0), ("q", 0), ("p", 1), ("p", 1)),
                     ("stretch", ("p", 1), ("p", 1), ("p", 0), ("q", 0))]:
            self.assertIs(is_deed(GROVE, deed), True)
        self.assertEqual(sum(is_deed(GROVE, deed) for deed in all_tries(GROVE)), 6)
        self.assertIs(is_deed(GROVE, ("hang", ("p", 1), ("q", 0))), False)
        self.assertIs(is_deed(CHAIN, ("stretch", ("root", 0), ("k", 0), ("l", 0), ("l", 0))), False)
        self.assertIs(is_deed(CHAIN, ("stretch", ("root", 0), ("k", 0), ("l", 0), ("m", 0))), True)

    def test_empty_stretches(self):
        both = ("stretch", ("p", 0), ("p", 0), ("p", 1), ("p", 1))
        self.assertIs(is_deed(GROVE, both), False)
        self.assertIs(is_deed(GROVE, ("stretch",) + (("p", 0),) * 4), False)
        self.assertIs(is_deed(CHAIN, ("stretch", ("root", 0), ("root", 0), ("k", 0), ("l", 0))), False)
        self.assertIs(is_deed(CHAIN, ("stretch", ("k", 0), ("l", 0), ("k", 0), ("k", 0))), False)
        self.assertIs(is_deed(CHAIN, ("stretch", ("k", 0), ("l", 0), ("l", 0), ("l", 0))), False)

    def test_anything(self):
        places = [("p", 0), ("q", 0), ("p", 1), ("p", 1)]
        odd = ["hang", ("hang",), ("stretch",), ("hang", ("p", 0)), ("hang", ("p", 0), ("p", 1), ("p", 1)),
               ("hang", *places), ("stretch", ("p", 0), ("p", 1)), ("stretch", *places, ("p", 1)),
               ["hang", ("p", 0), ("p", 1)], ("hang", ["p", 0], ("p", 1)), ("Hang", ("p", 0), ("p", 1)),
               ("hang", (("p", 0), ("p", 1))), ["stretch", *places], ("hang", ("p", False), ("p", True)),
               ("hang", ("p", 0), ("p", True))]
        for value in cases(self, odd):
            self.assertIs(is_deed(GROVE, value), False)
        for value in cases(self, ODD_VALUES + [BUSH_TABLE, ["hang"], "Hang", "hang "]):
            for told in (value, ("hang", value, ("p", 1)), ("hang", ("p", 0), value), (value, ("p", 0), ("p", 1)),
                         ("stretch", value, *places[1:]), ("stretch", places[0], value, *places[2:]),
                         ("stretch", *places[:2], value, ("p", 1)), ("stretch", *places[:3], value),
                         (value, *places)):
                self.assertIs(is_deed(GROVE, told), False)
                self.assertIs(is_deed(EMPTY, told), False)


class Rules(unittest.TestCase):
    def test_rules(self):
        keeps_the_rules(self, is_stretch, GROVE, ("root", 0), ("q", 0))
        keeps_the_rules(self, stretch_joints, GROVE, ("root", 0), ("q", 0))
        keeps_the_rules(self, stretch_joints, GROVE, ("root", 0), ("root", 0))
        keeps_the_rules(self, is_deed, GROVE, ("hang", ("p", 0), ("p", 1)))
        keeps_the_rules(self, is_deed, GROVE, [["hang"], {"p": [0]}])

    def test_great_groves(self):
        """30 joints in one chain, which are all moved."""
        names = [f"j{number}" for number in range(30)]
        grove = chain_of(names)
        for number in range(1, 29):
            self.assertIs(is_deed(grove, ("stretch", ("root", 0), ("j0", 0), ("j0", 0), (f"j{number}", 0))), True)
            self.assertEqual(stretch_joints(grove, ("root", 0), (f"j{number}", 0)), names[:number + 1])
