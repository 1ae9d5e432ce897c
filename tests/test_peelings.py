import itertools
import random
import unittest

from kindredbush.bars import judge_bar
from kindredbush.errors import BadTable
from kindredbush.ladders import Ladder, is_ladder_of, table_of, tied
from kindredbush.peelings import first_steps, judge_peeling, ladder_by, ladder_of, peeling_of, step_done
from kindredbush.tables import Table, part_of, turned, with_fit
from tests.support import (DOMINO_TABLE, ODD_VALUES, RING_TABLE, T, all_tables, cases, keeps_the_rules, raises,
                           some_ladder, some_table)

EMPTY = Table([], [], [])
LONE = Table(["a", "b", "c"], ["a"], [("a", "a"), ("c", "a")])


def plain_steps(table):
    """S2.3 word by word."""
    fits = table.fits()
    stems, places = table.stems(), table.places()
    of_stem = {s: [p for p in places if (s, p) in fits] for s in stems}
    at_place = {p: [s for s in stems if (s, p) in fits] for p in places}
    steps = []
    for side, colours, lists in [("stem", stems, of_stem), ("place", places, at_place)]:
        for colour in colours:
            steps += [("alone", side, colour, None)] if lists[colour] == [] else []
            steps += [("pendant", side, colour, lists[colour][0])] if len(lists[colour]) == 1 else []
            steps += [("twin", side, colour, other) for other in colours
                      if other != colour and lists[other] == lists[colour]]
    return steps


def plain_behind(table, step):
    stems = [one for one in table.stems() if step[1] == "place" or one != step[2]]
    places = [one for one in table.places() if step[1] == "stem" or one != step[2]]
    return Table(stems, places, [fit for fit in table.fits() if fit[0] in stems and fit[1] in places])


def plain_fault(table, steps):
    """The number of S2.3 for a list of anything, or None if it is a peeling."""
    for number, step in enumerate(steps):
        if not any(step == one and isinstance(step, tuple) for one in plain_steps(table)):
            return number
        table = plain_behind(table, step)
    return None if table == EMPTY else len(steps)


def plain_ladder(table, peeling):
    """S2.4 word by word."""
    knots, arrows, stems, places = [], [], {}, {}

    def new():
        knots.append("k" + str(len(knots)))
        return knots[-1]

    for word, side, colour, other in reversed(peeling):
        mine, theirs = (stems, places) if side == "stem" else (places, stems)
        if word == "alone":
            mine[colour] = new()
        elif word == "twin":
            mine[colour] = mine[other]
        elif side == "place":
            v, w, x = theirs[other], new(), new()
            arrows += [(w, v), (w, x)]
            theirs[other], mine[colour] = w, x
        else:
            v, z, y = theirs[other], new(), new()
            arrows += [(v, z), (y, z)]
            theirs[other], mine[colour] = z, y
    return Ladder(knots, arrows, [(s, stems[s]) for s in table.stems()], [(p, places[p]) for p in table.places()])


def any_peeling(chance, table):
    """A peeling with steps taken at random, or None."""
    steps = []
    while first_steps(table):
        steps.append(chance.choice(first_steps(table)))
        table = step_done(table, steps[-1])
    return steps if table == EMPTY else None


class Steps(unittest.TestCase):
    def test_t(self):
        self.assertEqual(first_steps(T), [("pendant", "place", "x", "a"), ("pendant", "place", "z", "b")])
        self.assertEqual(step_done(T, ("pendant", "place", "x", "a")),
                         Table(["a", "b"], ["y", "z"], [("a", "y"), ("b", "y"), ("b", "z")]))

    def test_the_order(self):
        self.assertEqual(first_steps(LONE), [
            ("pendant", "stem", "a", "a"), ("twin", "stem", "a", "c"), ("alone", "stem", "b", None),
            ("pendant", "stem", "c", "a"), ("twin", "stem", "c", "a")])
        self.assertEqual(first_steps(Table(["b", "a"], ["x"], [])), [
            ("alone", "stem", "b", None), ("twin", "stem", "b", "a"), ("alone", "stem", "a", None),
            ("twin", "stem", "a", "b"), ("alone", "place", "x", None)])
        self.assertEqual(first_steps(Table([], ["z", "x", "y"], []))[3:6], [
            ("alone", "place", "x", None), ("twin", "place", "x", "z"), ("twin", "place", "x", "y")])

    def test_where_none_can_be_done(self):
        for table in [EMPTY, RING_TABLE, DOMINO_TABLE]:
            self.assertEqual(first_steps(table), [])

    def test_all_small_tables(self):
        for stems in [[], ["a"], ["b", "a"], ["b", "a", "c"]]:
            for places in [[], ["a"], ["x", "a"], ["x", "c", "a"]]:
                for table in all_tables(stems, places):
                    steps = first_steps(table)
                    self.assertEqual(steps, plain_steps(table))
                    for step in steps:
                        self.assertEqual(step_done(table, step), plain_behind(table, step))

    def test_what_is_no_step(self):
        step = ("pendant", "place", "x", "a")
        odd = [list(step), step[:3], step + (None,), ("pendant", "place", "x", "b"), ("pendant", "stem", "x", "a"),
               ("pendant", "place", "x", None), ("pendant", "place", "y", "a"), ("alone", "place", "x", None),
               ("alone", "stem", "a", None), ("twin", "stem", "a", "b"), ("twin", "stem", "a", "a"),
               ("twin", "place", "x", "z"), ("twins", "place", "x", "a"), ("pendant", "stem", "a", "x")]
        for value in cases(self, ODD_VALUES + odd):
            raises(self, BadTable, {"word": "step", "value": value}, step_done, T, value)
            raises(self, BadTable, {"word": "step", "value": value}, step_done, EMPTY, value)
        for value in cases(self, ODD_VALUES):
            for number in range(4):
                other = step[:number] + (value,) + step[number + 1:]
                raises(self, BadTable, {"word": "step", "value": other}, step_done, T, other)
        lone = Table(["a"], [], [])
        self.assertEqual(step_done(lone, ("alone", "stem", "a", None)), EMPTY)
        for value in [("alone", "stem", "a"), ("alone", "stem", "a", "a"), ("alone", "stem", "a", False),
                      ("alone", "place", "a", None), ("twin", "stem", "a", "a"), ("twin", "stem", "a", None)]:
            raises(self, BadTable, {"word": "step", "value": value}, step_done, lone, value)


class Peelings(unittest.TestCase):
    def test_no_colours(self):
        self.assertEqual(peeling_of(EMPTY), [])
        self.assertIsNone(judge_peeling(EMPTY, []))
        self.assertIsNone(judge_peeling(EMPTY, ()))
        self.assertEqual(ladder_by(EMPTY, []), Ladder([], [], [], []))
        self.assertEqual(ladder_of(EMPTY), Ladder([], [], [], []))
        self.assertEqual(judge_peeling(EMPTY, [("alone", "stem", "a", None)]), 0)

    def test_just_where_there_is_one(self):
        """A table of three and three has none exactly if it has a ring or a domino."""
        without = []
        for table in all_tables(["a", "b", "c"], ["x", "y", "a"]):
            peeling = peeling_of(table)
            if peeling is None:
                without.append(table)
                self.assertEqual(len(first_steps(table)), 0)
            else:
                self.assertEqual(len(peeling), 6)
                self.assertIsNone(plain_fault(table, peeling))
                self.assertIsNone(judge_peeling(table, peeling))
        self.assertEqual(len(without), 24)

    def test_where_steps_do_not_take_all_colours_off(self):
        for table in [RING_TABLE, DOMINO_TABLE]:
            more = Table(table.stems() + ["d"], table.places() + ["d"], table.fits() + [("d", "d")])
            self.assertIsNone(peeling_of(more))
            self.assertIsNone(peeling_of(turned(more)))

    def test_judged(self):
        peeling = peeling_of(T)
        self.assertIsNone(judge_peeling(T, peeling))
        self.assertIsNone(judge_peeling(T, tuple(peeling)))
        for number in range(5):
            self.assertEqual(judge_peeling(T, peeling[:number]), number)
            self.assertEqual(judge_peeling(T, tuple(peeling[:number])), number)
            for value in cases(self, ODD_VALUES + [peeling[number - 1], list(peeling[number])]):
                self.assertEqual(judge_peeling(T, peeling[:number] + [value] + peeling[number:]), number)
                self.assertEqual(judge_peeling(T, peeling[:number] + [value]), number)
        self.assertEqual(judge_peeling(T, peeling + [peeling[-1]]), 5)
        self.assertEqual(judge_peeling(T, peeling + [None]), 5)
        for value in cases(self, [one for one in ODD_VALUES if not isinstance(one, (list, tuple))] + ["abcde"]):
            self.assertEqual(judge_peeling(T, value), 0)
            self.assertEqual(judge_peeling(EMPTY, value), 0)
        self.assertEqual(judge_peeling(RING_TABLE, []), 0)

    def test_judged_against_the_words(self):
        chance = random.Random(13)
        for table in all_tables(["a", "b"], ["a", "y"]):
            steps = [step for step in first_steps(table)]
            for _ in range(10):
                peeling = any_peeling(chance, table)
                self.assertIsNone(judge_peeling(table, peeling))
                other = peeling + steps
                chance.shuffle(other)
                other = other[:chance.randrange(len(other) + 1)]
                self.assertEqual(judge_peeling(table, other), plain_fault(table, other))

    def test_it_does_not_matter_which_steps_come_first(self):
        chance = random.Random(14)
        for _ in range(150):
            table = some_table(chance, list("abcd"), list("wxyz"), chance.choice([0.3, 0.5, 0.7]))
            first = any_peeling(chance, table)
            self.assertEqual(first is None, peeling_of(table) is None)


class LaddersOfPeelings(unittest.TestCase):
    def test_alone(self):
        self.assertEqual(ladder_by(Table(["b", "a"], [], []), [("alone", "stem", "b", None),
                                                               ("alone", "stem", "a", None)]),
                         Ladder(["k0", "k1"], [], [("b", "k1"), ("a", "k0")], []))

    def test_twin(self):
        self.assertEqual(ladder_by(Table([], ["b", "a"], []), [("twin", "place", "b", "a"),
                                                               ("alone", "place", "a", None)]),
                         Ladder(["k0"], [], [], [("b", "k0"), ("a", "k0")]))

    def test_pendant_place(self):
        self.assertEqual(ladder_by(Table(["a"], ["a"], [("a", "a")]), [("pendant", "place", "a", "a"),
                                                                       ("alone", "stem", "a", None)]),
                         Ladder(["k0", "k1", "k2"], [("k1", "k0"), ("k1", "k2")], [("a", "k1")], [("a", "k2")]))

    def test_pendant_stem(self):
        self.assertEqual(ladder_by(Table(["a"], ["a"], [("a", "a")]), [("pendant", "stem", "a", "a"),
                                                                       ("alone", "place", "a", None)]),
                         Ladder(["k0", "k1", "k2"], [("k0", "k1"), ("k2", "k1")], [("a", "k2")], [("a", "k1")]))

    def test_a_twin_stays_where_it_was(self):
        """Only the other colour of a pendant moves, not those with the same home."""
        table = Table(["a", "b"], ["x", "y"], [("a", "x"), ("b", "x"), ("b", "y")])
        peeling = [("pendant", "place", "y", "b"), ("twin", "stem", "a", "b"), ("pendant", "stem", "b", "x"),
                   ("alone", "place", "x", None)]
        self.assertEqual(ladder_by(table, peeling), Ladder(
            ["k0", "k1", "k2", "k3", "k4"], [("k0", "k1"), ("k2", "k1"), ("k3", "k2"), ("k3", "k4")],
            [("a", "k2"), ("b", "k3")], [("x", "k1"), ("y", "k4")]))

    def test_against_the_words(self):
        chance = random.Random(15)
        tables = list(all_tables(["b", "a"], ["x", "a"]))
        tables += [some_table(chance, list("dcba"), list("aybx"), 0.4) for _ in range(60)]
        for table in tables:
            for _ in range(3):
                peeling = any_peeling(chance, table)
                if peeling is not None:
                    ladder = ladder_by(table, tuple(peeling))
                    self.assertEqual(ladder, plain_ladder(table, peeling))
                    self.assertEqual(ladder_by(table, peeling), ladder)
                    self.assertIs(is_ladder_of(ladder, table), True)

    def test_no_peeling(self):
        peeling = peeling_of(T)
        for number in range(5):
            raises(self, BadTable, {"word": "peeling", "value": number}, ladder_by, T, peeling[:number])
            for value in cases(self, ODD_VALUES):
                raises(self, BadTable, {"word": "peeling", "value": number}, ladder_by, T,
                       tuple(peeling[:number]) + (value,) + tuple(peeling[number:]))
        for value in cases(self, [one for one in ODD_VALUES if not isinstance(one, (list, tuple))] + ["abcde"]):
            raises(self, BadTable, {"word": "peeling", "value": 0}, ladder_by, T, value)
            raises(self, BadTable, {"word": "peeling", "value": 0}, ladder_by, EMPTY, value)
        raises(self, BadTable, {"word": "peeling", "value": 0}, ladder_by, RING_TABLE, [])


class LaddersOfTables(unittest.TestCase):
    def check(self, table):
        """A ladder within its limit, or an error with a bar."""
        limit = 32 if len(table.stems()) + len(table.places()) <= 16 else 2 * len(table.stems() + table.places())
        try:
            ladder = ladder_of(table)
        except BadTable as error:
            self.assertIs(type(error), BadTable)
            self.assertEqual(sorted(vars(error)), ["value", "word"])
            self.assertIs(judge_bar(table, (error.word, error.value)), True)
            self.assertIsNone(peeling_of(table))
            return False
        self.assertIs(is_ladder_of(ladder, table), True)
        self.assertLessEqual(len(ladder.knots()), limit)
        self.assertIsNotNone(peeling_of(table))
        return True

    def test_all_tables_of_three_and_three(self):
        good = [table for table in all_tables(["a", "b", "c"], ["x", "y", "a"]) if self.check(table)]
        self.assertEqual(len(good), 512 - 24)

    def test_some_tables_of_eight_and_eight(self):
        chance = random.Random(16)
        for part in [0.02, 0.1, 0.2, 0.3, 0.6, 0.9, 0.97]:
            for _ in range(5):
                self.check(some_table(chance, list("abcdefgh"), list("stuvwxyz"), part))

    def test_tables_of_ladders(self):
        chance = random.Random(17)
        for knots, many in [(1, 3), (5, 4), (10, 8), (20, 8), (32, 8), (32, 16), (32, 16)]:
            ladder = some_ladder(chance, knots, many, many)
            table = table_of(ladder, [c for c, _ in ladder.stem_homes()], [c for c, _ in ladder.place_homes()])
            self.assertTrue(self.check(table))
            self.assertTrue(self.check(turned(table)))
            self.assertTrue(self.check(part_of(table, table.stems()[::2], table.places()[1:])))
            for stem, place in itertools.islice(itertools.product(table.stems(), table.places()), 5):
                self.check(with_fit(table, stem, place))

    def test_a_path_makes_the_most_knots(self):
        for size in [8, 24]:
            fits = [(f"s{n}", f"p{n}") for n in range(size)] + [(f"s{n + 1}", f"p{n}") for n in range(size - 1)]
            self.assertTrue(self.check(Table([f"s{n}" for n in range(size)], [f"p{n}" for n in range(size)], fits)))

    def test_rings(self):
        for size in [3, 5, 8, 16]:
            names = [f"c{number}" for number in range(size)]
            fits = [(names[n], names[n]) for n in range(size)] + [(names[n], names[n - 1]) for n in range(size)]
            self.assertFalse(self.check(Table(names, names, fits)))

    def test_the_whole_of_two_tied_ladders(self):
        one = ladder_of(T)
        other = Ladder(["u", "v"], [("u", "v")], [("red", "u")], [("w", "v")])
        both = tied(one, other, (one.knots()[0], "u"))
        table = table_of(both, ["a", "b", "red"], ["x", "y", "z", "w"])
        self.assertEqual(part_of(table, ["a", "b"], ["x", "y", "z"]), T)
        self.assertTrue(self.check(table))


class Rules(unittest.TestCase):
    def test_rules(self):
        for table in [EMPTY, T, LONE]:
            peeling = peeling_of(table)
            keeps_the_rules(self, first_steps, table)
            keeps_the_rules(self, peeling_of, table)
            keeps_the_rules(self, ladder_of, table)
            keeps_the_rules(self, ladder_by, table, peeling)
            keeps_the_rules(self, judge_peeling, table, peeling)
            keeps_the_rules(self, judge_peeling, table, [["alone", {"a": []}]] + peeling)
        keeps_the_rules(self, peeling_of, RING_TABLE)
        keeps_the_rules(self, step_done, T, ("pendant", "place", "x", "a"))
