import itertools
import unittest

from kindredbush.bags import Bag
from kindredbush.deeds import done
from kindredbush.errors import BadDeed, UnknownName
from kindredbush.flats import first_flat, flat_places
from kindredbush.groves import Grove
from kindredbush.ladders import Ladder, table_of
from kindredbush.pieces import is_deed
from kindredbush.scripts import steps
from kindredbush.seen import done_flat, is_flat_deed, seen_deed, seen_grove, seen_script, top
from tests.support import ODD_VALUES, cases, keeps_the_rules, raises
from tests.test_flats import (A, FLAT_F, FLAT_G, all_flats, branches, good_cases, great_case, plain_knot, plain_rows,
                              plain_seen)
from tests.test_flows import BAG, EMPTY_BAG, F, G, LADDER
from tests.test_pieces import plain_rows as rows_behind
from tests.test_pieces import plain_shape

ROOTS = ["q"]
STRETCH = ("stretch", ("root", 0), (A, 0), ("x", 0), ("y", 0))
# Three joints at three roots, each below an adapter of one arrow, and one that is at home at the branch of another.
WIDE_BAG = Bag(BAG.table(), [("i", "a", ()), ("j", "a", ("q",)), ("k", "b", ()), ("l", "a", ())])
WIDE = Grove(WIDE_BAG, ["q", "p", "q"], [("j", ("k",)), ("l",), ("i",)])


class View:
    """A flat grove, with what the plain functions for groves ask of a grove."""

    def __init__(self, bag, roots, flat):
        self.told = bag
        self.colours = roots
        self.flat = flat
        self.rows = dict(plain_rows(flat))

    def bag(self):
        return self

    def branches(self, holder):
        return (None,) * branches(self.told, holder)

    def roots(self):
        return self.colours

    def bushes(self):
        return list(self.flat)

    def joint(self, place):
        return self.rows[place]


def plain_flat_deed(ladder, bag, roots, flat, deed):
    """S5.6 word by word, for what has the form of a deed with flat places."""
    knots = [plain_knot(ladder, bag, roots, place) for place in deed[1:]]
    half = len(knots) // 2
    return knots[:half] == knots[half:] and plain_shape(View(bag, roots, flat), deed)


def plain_done(bag, roots, flat, deed):
    rows = rows_behind(View(bag, roots, flat), deed)

    def grown(place):
        holder = rows[place]
        return (holder, *[grown((holder, n)) for n in range(branches(bag, holder))])

    return tuple(grown(("root", n)) for n in range(len(roots)))


def plain_top(flat, place):
    spots = {holder: spot for spot, holder in plain_rows(flat)}
    return plain_top(flat, spots[place[0]]) if isinstance(place[0], tuple) else place


def plain_seen_deed(grove, flat, deed):
    """S5.7 word by word, in the grove that is seen ahead of the deed."""
    word, *tops = [deed[0]] + [plain_top(flat, place) for place in deed[1:]]
    if word == "hang":
        return ("hang", *tops)
    s, t, u, v = tops
    if s == t and u == v:
        return None
    if s != t and u != v:
        return ("stretch", s, t, u, v)
    if s == t:
        if grove.is_apart(s, u):
            return ("stretch", s, s, u, v)
        return ("stretch", s, u, u, v) if grove.is_above(s, u) else ("stretch", u, v, v, s)
    if grove.is_apart(s, u):
        return ("stretch", u, u, s, t)
    return ("stretch", u, s, s, t) if grove.is_above(u, s) else ("stretch", s, t, t, u)


def all_flat_tries(ladder, bag, roots):
    places = flat_places(ladder, bag, roots)
    for size, word in ((2, "hang"), (4, "stretch")):
        for some in itertools.product(places, repeat=size):
            yield (word, *some)


class Seen(unittest.TestCase):
    def test_word_by_word(self):
        for ladder, bag, roots, _ in good_cases(60, 150, 4, 7):
            for flat in all_flats(ladder, bag, roots)[:12]:
                grove = seen_grove(ladder, bag, roots, flat)
                self.assertEqual(grove, Grove(bag, roots, [plain_seen(bush) for bush in flat]))
                self.assertEqual(seen_grove(ladder, bag, list(roots), flat), grove)
                for place in flat_places(ladder, bag, roots):
                    self.assertEqual(top(ladder, bag, roots, flat, place), plain_top(flat, place))

    def test_examples(self):
        self.assertEqual(seen_grove(LADDER, BAG, ROOTS, FLAT_F), F)
        self.assertEqual(seen_grove(LADDER, BAG, ROOTS, FLAT_G), G)
        self.assertEqual(seen_grove(LADDER, EMPTY_BAG, [], ()), Grove(EMPTY_BAG, [], []))
        self.assertEqual(top(LADDER, BAG, ROOTS, FLAT_F, (A, 0)), ("root", 0))
        self.assertEqual(top(LADDER, BAG, ROOTS, FLAT_G, (A, 0)), ("x", 0))
        self.assertEqual(top(LADDER, BAG, ROOTS, FLAT_F, ("x", 0)), ("x", 0))

    def test_no_flat_place(self):
        odd = [(A, 1), (A, False), ((0, False), 0), ((0, 1), 0), ("z", 0), ("root", 1), A, [A, 0], (["x"], 0)]
        for value in cases(self, ODD_VALUES + odd):
            raises(self, UnknownName, {"name": value}, top, LADDER, BAG, ROOTS, FLAT_F, value)
            raises(self, UnknownName, {"name": value}, top, LADDER, EMPTY_BAG, [], (), value)


class FlatDeeds(unittest.TestCase):
    def test_word_by_word(self):
        met = {}
        for ladder, bag, roots, _ in good_cases(61, 150, 4, 6):
            for flat in all_flats(ladder, bag, roots)[:3]:
                grove = seen_grove(ladder, bag, roots, flat)
                for deed in all_flat_tries(ladder, bag, roots):
                    can = plain_flat_deed(ladder, bag, roots, flat, deed)
                    self.assertIs(is_flat_deed(ladder, bag, roots, flat, deed), can)
                    if can:
                        kind = self.check_done(ladder, bag, roots, flat, grove, deed)
                        met[kind] = met.get(kind, 0) + 1
        self.assertEqual(len(met), 9, met)

    def check_done(self, ladder, bag, roots, flat, grove, deed):
        """What a flat deed does and as what it is seen; returns which of the cases of S5.7 it is."""
        after = done_flat(ladder, bag, roots, flat, deed)
        self.assertEqual(after, plain_done(bag, roots, flat, deed))
        seen = seen_deed(ladder, bag, roots, flat, deed)
        self.assertEqual(seen, plain_seen_deed(grove, flat, deed))
        if seen is None:
            self.assertEqual(seen_grove(ladder, bag, roots, after), grove)
        else:
            self.assertTrue(is_deed(grove, seen))
            self.assertEqual(done(grove, seen), seen_grove(ladder, bag, roots, after))
            self.assertEqual(len(seen), len(deed))
        s, t, *rest = [plain_top(flat, place) for place in deed[1:]]
        if not rest:
            return "hang"
        u, v = rest
        if s == t and u == v or s != t and u != v:
            return s == t
        return (s == t, u == v, grove.is_above(s, u), grove.is_above(u, s))

    def test_example(self):
        self.assertIs(is_flat_deed(LADDER, BAG, ROOTS, FLAT_F, STRETCH), True)
        self.assertEqual(done_flat(LADDER, BAG, ROOTS, FLAT_F, STRETCH), FLAT_G)
        self.assertEqual(seen_deed(LADDER, BAG, ROOTS, FLAT_F, STRETCH),
                         ("stretch", ("root", 0), ("x", 0), ("x", 0), ("y", 0)))

    def test_two_adapters_of_one_arrow(self):
        """Exchanged with what hangs at them, that is seen; themselves alone, it is not."""
        flat = first_flat(LADDER, WIDE)
        one, other = (0, 0), (0, 1)
        self.assertEqual(flat, ((one, ("j", ("k",))), ("l",), (other, ("i",))))
        tops = (("root", 0), ("root", 2))
        told = (LADDER, WIDE_BAG, WIDE.roots(), flat)
        alone = ("stretch", tops[0], (one, 0), tops[1], (other, 0))
        self.assertEqual(done_flat(*told, alone), ((other, ("j", ("k",))), ("l",), (one, ("i",))))
        self.assertIsNone(seen_deed(*told, alone))
        for deed in (("hang", *tops), ("hang", (one, 0), (other, 0)), ("hang", tops[1], tops[0])):
            wanted = ("hang", tops[1], tops[0]) if deed[1] == tops[1] else ("hang", *tops)
            self.assertEqual(seen_deed(*told, deed), wanted)
        self.assertIs(is_flat_deed(*told, ("hang", (one, 0), tops[1])), False)
        self.assertIs(is_flat_deed(*told, ("hang", (one, 0), ("root", 1))), True)

    def test_no_deed(self):
        places = [("root", 0), (A, 0), ("x", 0), ("y", 0)]
        odd = [("hang", ("root", 0), ("x", 0)), ("hang", (A, 0), ("y", 0)), ("stretch", *[places[0]] * 4), list(STRETCH),
               ("stretch", ("root", 0), ("root", 0), (A, 0), (A, 0)), ("stretch", *places[:2], places[1], places[3]),
               ("stretch", ("root", 0), ("x", 0), ("x", 0), ("root", 0)), STRETCH[:3], ("hang",) + STRETCH[1:],
               ("stretch", ("root", 0), ((0, False), 0), ("x", 0), ("y", 0)),
               ("stretch", ("root", 0), (A, False), ("x", 0), ("y", 0)), ("hang", A, A), ("hang", (A, 0), (A, 0))]
        for value in cases(self, odd):
            self.no_deed(value)
        for value in cases(self, ODD_VALUES):
            for deed in (value, ("hang", value, ("x", 0)), (value, *places[:2]), (value, *STRETCH[1:]),
                         ("stretch", value, *places[1:]), ("stretch", *places[:3], value)):
                self.no_deed(deed)

    def no_deed(self, value):
        self.assertIs(is_flat_deed(LADDER, BAG, ROOTS, FLAT_F, value), False)
        self.assertIs(is_flat_deed(LADDER, EMPTY_BAG, [], (), value), False)
        for function in (done_flat, seen_deed):
            raises(self, BadDeed, {"number": 0}, function, LADDER, BAG, ROOTS, FLAT_F, value)


class Scripts(unittest.TestCase):
    def test_deed_by_deed(self):
        for ladder, bag, roots, _ in good_cases(62, 60, 4, 7):
            start = flat = all_flats(ladder, bag, roots)[0]
            script, wanted = [], []
            for number in range(4):
                deeds = [deed for deed in all_flat_tries(ladder, bag, roots)
                         if is_flat_deed(ladder, bag, roots, flat, deed)]
                if not deeds:
                    break
                script.append(deeds[number * 7 % len(deeds)])
                seen = seen_deed(ladder, bag, roots, flat, script[-1])
                wanted += [] if seen is None else [seen]
                flat = done_flat(ladder, bag, roots, flat, script[-1])
            for told in (script, tuple(script)):
                self.assertEqual(seen_script(ladder, bag, roots, start, told), wanted)
            self.assertEqual(steps(seen_grove(ladder, bag, roots, start), wanted)[-1],
                             seen_grove(ladder, bag, roots, flat))

    def test_what_is_seen_as_nothing(self):
        flat = first_flat(LADDER, WIDE)
        alone = ("stretch", ("root", 0), ((0, 0), 0), ("root", 2), ((0, 1), 0))
        back = ("stretch", ("root", 0), ((0, 1), 0), ("root", 2), ((0, 0), 0))
        told = (LADDER, WIDE_BAG, WIDE.roots(), flat)
        self.assertEqual(seen_script(*told, [alone, back]), [])
        hang = ("hang", ("root", 0), ("root", 2))
        self.assertEqual(seen_script(*told, [alone, hang, alone, hang]), [hang, hang])
        raises(self, BadDeed, {"number": 1}, seen_script, *told, [alone, alone, back])
        raises(self, BadDeed, {"number": 2}, seen_script, *told, [alone, back, back])

    def test_members(self):
        self.assertEqual(seen_script(LADDER, BAG, ROOTS, FLAT_F, []), [])
        self.assertEqual(seen_script(LADDER, EMPTY_BAG, [], (), ()), [])
        back = ("stretch", ("root", 0), ("y", 0), ("x", 0), (A, 0))
        self.assertEqual(len(seen_script(LADDER, BAG, ROOTS, FLAT_F, [STRETCH, back])), 2)
        for value in cases(self, ODD_VALUES + [("hang", ("root", 0), ("x", 0)), list(STRETCH)]):
            for number, script in [(0, [value]), (1, [STRETCH, value]), (2, [STRETCH, back, value, value])]:
                raises(self, BadDeed, {"number": number}, seen_script, LADDER, BAG, ROOTS, FLAT_F, script)
            raises(self, BadDeed, {"number": 0}, seen_script, LADDER, EMPTY_BAG, [], (), [value])


class Rules(unittest.TestCase):
    def test_rules(self):
        for call in [(seen_grove, FLAT_F), (top, FLAT_F, (A, 0)), (is_flat_deed, FLAT_F, STRETCH),
                     (is_flat_deed, FLAT_F, [STRETCH]), (done_flat, FLAT_F, STRETCH), (seen_deed, FLAT_F, STRETCH),
                     (seen_script, FLAT_F, [STRETCH]), (seen_script, FLAT_F, [])]:
            keeps_the_rules(self, call[0], LADDER, BAG, ROOTS, *call[1:])

    def test_further_knots_and_colours(self):
        ladder = Ladder(["o", "v", "u"], [("v", "o"), ("u", "v")], [("c", "o"), ("a", "u"), ("b", "v")],
                        [("q", "v"), ("p", "u"), ("o", "o")])
        self.assertEqual(table_of(ladder, ["a", "b"], ["p", "q"]), BAG.table())
        flat = (((1, 0), ("x", ("y", ("z",)))),)
        deed = ("stretch", ("root", 0), ((1, 0), 0), ("x", 0), ("y", 0))
        self.assertEqual(seen_grove(ladder, BAG, ROOTS, flat), F)
        self.assertEqual(seen_deed(ladder, BAG, ROOTS, flat, deed),
                         ("stretch", ("root", 0), ("x", 0), ("x", 0), ("y", 0)))

    def test_240_adapters(self):
        ladder, grove = great_case()
        bag, roots = grove.bag(), grove.roots()
        flat = first_flat(ladder, grove)
        self.assertEqual(seen_grove(ladder, bag, roots, flat), grove)
        for place in flat_places(ladder, bag, roots):
            self.assertEqual(top(ladder, bag, roots, flat, place), plain_top(flat, place))
        rows = plain_rows(flat)
        knots = [plain_knot(ladder, bag, roots, place) for place, _ in rows]
        again = [number for number in range(1, 200) if knots[number] == knots[0]]
        deed = ("stretch", rows[0][0], rows[again[0]][0], rows[again[0]][0], rows[again[-1]][0])
        after = done_flat(ladder, bag, roots, flat, deed)
        seen = seen_script(ladder, bag, roots, flat, [deed] * 1)
        self.assertEqual(steps(grove, seen)[-1], seen_grove(ladder, bag, roots, after))
