import copy
import random
import unittest

from kindredbush.errors import BadFits, UnknownName
from kindredbush.tables import Table, part_of, turned, with_fit, without_fit
from tests.support import BAG, GROVE, LADDER, ODD_VALUES, T, all_tables, cases, keeps_the_rules, raises

STEMS = ["a", "b"]
PLACES = ["x", "y"]


def no_list(value):
    return not isinstance(value, (list, tuple))


class WrongParts(unittest.TestCase):
    def wrong(self, path, stems, places, fits):
        raises(self, BadFits, {"path": path}, Table, stems, places, fits)

    def test_no_lists(self):
        for value in cases(self, [value for value in ODD_VALUES if no_list(value)] + ["ab", "a", {"a": "b"}]):
            self.wrong((0,), value, PLACES, [])
            self.wrong((0,), value, value, value)
            self.wrong((1,), STEMS, value, [])
            self.wrong((1,), STEMS, value, value)
            self.wrong((2,), STEMS, PLACES, value)

    def test_no_words(self):
        for value in cases(self, ODD_VALUES):
            self.wrong((0, 0), [value], PLACES, [])
            self.wrong((0, 1), ["a", value, value], None, None)
            self.wrong((0, 2), ("a", "b", value), PLACES, [])
            self.wrong((1, 0), STEMS, [value, "x", "x"], None)
            self.wrong((1, 2), STEMS, ("x", "y", value), [])

    def test_words_of_12_and_13(self):
        self.assertEqual(Table(["abcdefghijkl"], [], []).stems(), ["abcdefghijkl"])
        self.wrong((0, 0), ["abcdefghijklm"], [], [])
        self.wrong((1, 0), [], ["abcdefghijklm"], [])

    def test_words_twice(self):
        self.wrong((0, 1), ["a", "a"], PLACES, [])
        self.wrong((0, 2), ["a", "b", "a", "b"], ["x", "x"], None)
        self.wrong((1, 1), STEMS, ["x", "x", 5], None)
        self.wrong((1, 3), STEMS, ["x", "y", "z", "y"], [])

    def test_no_pairs(self):
        rows = [value for value in ODD_VALUES if not (isinstance(value, tuple) and len(value) == 2)]
        for value in cases(self, rows + [["a", "x"], ("a", "x", "x"), ("a",), "ax", {"a": "x"}]):
            self.wrong((2, 0), STEMS, PLACES, [value])
            self.wrong((2, 1), STEMS, PLACES, (("a", "x"), value, ("a", "x")))

    def test_no_colours_in_a_pair(self):
        for value in cases(self, ODD_VALUES + ["c", "x"]):
            self.wrong((2, 0, 0), STEMS, PLACES, [(value, "x")])
            self.wrong((2, 1, 0), STEMS, PLACES, [("a", "x"), (value, value), None])
        for value in cases(self, ODD_VALUES + ["z", "a"]):
            self.wrong((2, 0, 1), STEMS, PLACES, [("a", value)])
            self.wrong((2, 2, 1), STEMS, PLACES, [("a", "x"), ("b", "y"), ("b", value), ("a", "x")])

    def test_pairs_twice(self):
        self.wrong((2, 1), STEMS, PLACES, [("a", "x"), ("a", "x")])
        self.wrong((2, 3), STEMS, PLACES, [("a", "x"), ("b", "y"), ("a", "y"), ("b", "y"), ("a", "x")])
        self.wrong((2, 2), STEMS, PLACES, [("a", "x"), ("b", "x"), ("a", "x"), ("c", "x")])

    def test_a_list_ahead_of_the_next_one(self):
        self.wrong((0, 1), ["a", "a"], ["x", "x"], [("q", "q")])
        self.wrong((1, 1), ["a"], ["x", "x"], [("q", "q")])
        self.wrong((2, 0, 0), ["a"], ["x"], [("q", "q")])

    def test_objects_are_no_lists(self):
        for value in [T, LADDER, BAG, GROVE]:
            self.wrong((0,), value, [], [])
            self.wrong((0, 0), [value], [], [])
            self.wrong((2, 0), ["a"], ["x"], [value])


class Told(unittest.TestCase):
    def test_lists(self):
        self.assertEqual(T.stems(), ["a", "b"])
        self.assertEqual(T.places(), ["x", "y", "z"])
        self.assertEqual(T.fits(), [("a", "x"), ("a", "y"), ("b", "y"), ("b", "z")])

    def test_the_order_of_fits(self):
        fits = [(stem, place) for stem in ["b", "a", "c"] for place in ["y", "x"]]
        chance = random.Random(1)
        for _ in range(20):
            rows = fits[:]
            chance.shuffle(rows)
            table = Table(("b", "a", "c"), ("y", "x"), tuple(rows))
            self.assertEqual(table.fits(), fits)
            self.assertEqual(table.fits_of("c"), ["y", "x"])
            self.assertEqual(table.fits_at("x"), ["b", "a", "c"])

    def test_no_colours(self):
        empty = Table([], (), [])
        self.assertEqual((empty.stems(), empty.places(), empty.fits()), ([], [], []))
        self.assertEqual(Table(["a"], [], []).fits_of("a"), [])
        self.assertEqual(Table([], ["a"], []).fits_at("a"), [])

    def test_a_word_on_both_sides(self):
        table = Table(["a", "b", "c"], ["a"], [("a", "a"), ("c", "a")])
        self.assertEqual(table.fits_of("a"), ["a"])
        self.assertEqual(table.fits_at("a"), ["a", "c"])
        self.assertIs(table.is_fit("a", "a"), True)
        self.assertIs(table.is_fit("b", "a"), False)
        raises(self, UnknownName, {"name": "b"}, table.fits_at, "b")

    def test_fits(self):
        for table in all_tables(["a", "b"], ["a", "y"]):
            for stem in ["a", "b"]:
                for place in ["a", "y"]:
                    self.assertIs(table.is_fit(stem, place), (stem, place) in table.fits())
                self.assertEqual(table.fits_of(stem), [p for p in ["a", "y"] if (stem, p) in table.fits()])
            for place in ["a", "y"]:
                self.assertEqual(table.fits_at(place), [s for s in ["a", "b"] if (s, place) in table.fits()])

    def test_what_is_no_colour(self):
        for value in cases(self, ODD_VALUES + ["c"]):
            raises(self, UnknownName, {"name": value}, T.fits_of, value)
            raises(self, UnknownName, {"name": value}, T.fits_at, value)
            raises(self, UnknownName, {"name": value}, T.is_fit, value, "x")
            raises(self, UnknownName, {"name": value}, T.is_fit, "a", value)
            raises(self, UnknownName, {"name": value}, T.is_fit, value, "q")
        raises(self, UnknownName, {"name": "x"}, T.fits_of, "x")
        raises(self, UnknownName, {"name": "a"}, T.fits_at, "a")
        raises(self, UnknownName, {"name": "x"}, T.is_fit, "x", "a")

    def test_equality(self):
        same = Table(("a", "b"), ("x", "y", "z"), (("b", "z"), ("b", "y"), ("a", "y"), ("a", "x")))
        self.assertIs(T == same, True)
        self.assertIs(T != same, False)
        others = [
            Table(["b", "a"], ["x", "y", "z"], T.fits()), Table(["a", "b"], ["y", "x", "z"], T.fits()),
            Table(["a", "b"], ["x", "y", "z"], T.fits()[1:]), Table(["a", "b", "c"], ["x", "y", "z"], T.fits()),
            Table(["a", "b"], ["x", "y", "z", "w"], T.fits()), Table([], [], []),
        ]
        for other in others:
            self.assertIs(T == other, False)
            self.assertIs(other == T, False)
        for other in [value for value in ODD_VALUES if value is not T] + [T.fits()]:
            self.assertIs(T == other, False)
            self.assertIs(other == T, False)


class Turned(unittest.TestCase):
    def test_example(self):
        self.assertEqual(turned(T), Table(["x", "y", "z"], ["a", "b"],
                                          [("x", "a"), ("y", "a"), ("y", "b"), ("z", "b")]))

    def test_all(self):
        for table in all_tables(["a", "b"], ["a", "y"]):
            other = turned(table)
            self.assertEqual(other.stems(), table.places())
            self.assertEqual(other.places(), table.stems())
            self.assertEqual(sorted(other.fits()), sorted((place, stem) for stem, place in table.fits()))
            self.assertEqual(turned(other), table)


class Parts(unittest.TestCase):
    def test_parts(self):
        self.assertEqual(part_of(T, ["b"], ["z", "x"]), Table(["b"], ["x", "z"], [("b", "z")]))
        self.assertEqual(part_of(T, ("b", "a"), ("z", "y", "x")), T)
        self.assertEqual(part_of(T, [], []), Table([], [], []))
        self.assertEqual(part_of(T, ["b", "a"], []), Table(["a", "b"], [], []))
        self.assertEqual(part_of(T, [], ["y", "x"]), Table([], ["x", "y"], []))

    def test_a_word_on_both_sides(self):
        table = Table(["a", "b"], ["b", "a"], [("a", "a"), ("b", "b"), ("b", "a")])
        self.assertEqual(part_of(table, ["b"], ["a"]), Table(["b"], ["a"], [("b", "a")]))
        self.assertEqual(part_of(table, ["a"], ["b"]), Table(["a"], ["b"], []))

    def test_unknown(self):
        for value in cases(self, ODD_VALUES + ["c", "x"]):
            raises(self, UnknownName, {"name": value}, part_of, T, [value], ["x"])
            raises(self, UnknownName, {"name": value}, part_of, T, ["b", value, 5], [5])
        for value in cases(self, ODD_VALUES + ["w", "a"]):
            raises(self, UnknownName, {"name": value}, part_of, T, ["a"], ["z", value, 5])
        raises(self, UnknownName, {"name": "y"}, part_of, T, ["a", "y"], ["b"])


class Changed(unittest.TestCase):
    def test_with_and_without(self):
        for table in all_tables(["a", "b"], ["a", "y"]):
            for pair in [(stem, place) for stem in ["a", "b"] for place in ["a", "y"]]:
                more = [fit for fit in table.fits() if fit != pair] + [pair]
                less = [fit for fit in table.fits() if fit != pair]
                self.assertEqual(with_fit(table, *pair), Table(["a", "b"], ["a", "y"], more))
                self.assertEqual(without_fit(table, *pair), Table(["a", "b"], ["a", "y"], less))

    def test_unknown(self):
        for function in [with_fit, without_fit]:
            for value in cases(self, ODD_VALUES + ["c", "x"]):
                raises(self, UnknownName, {"name": value}, function, T, value, "x")
                raises(self, UnknownName, {"name": value}, function, T, value, 5)
            for value in cases(self, ODD_VALUES + ["w", "a"]):
                raises(self, UnknownName, {"name": value}, function, T, "a", value)


class Rules(unittest.TestCase):
    def test_rules(self):
        for call in [(T.stems,), (T.places,), (T.fits,), (T.fits_of, "a"), (T.fits_at, "y"), (T.is_fit, "a", "z"),
                     (turned, T), (part_of, T, ["b"], ["z", "y"]), (with_fit, T, "a", "z"),
                     (without_fit, T, "a", "x"), (Table, ["a", "b"], ["x"], [("b", "x"), ("a", "x")])]:
            keeps_the_rules(self, *call)

    def test_no_list_is_kept(self):
        stems, places, fits = ["a", "b"], ["x", "y"], [("b", "x"), ("a", "y")]
        table = Table(stems, places, fits)
        for one in [stems, places, fits]:
            one.clear()
        self.assertEqual(table, Table(["a", "b"], ["x", "y"], [("a", "y"), ("b", "x")]))
        self.assertEqual(table.fits_of("a"), ["y"])

    def test_told_lists_are_apart_from_the_table(self):
        table = copy.deepcopy(T)
        for told in [table.stems(), table.places(), table.fits(), table.fits_of("a"), table.fits_at("y")]:
            told.clear()
        self.assertEqual(table, T)
        self.assertEqual((table.fits_of("a"), table.fits_at("y")), (["x", "y"], ["a", "b"]))
