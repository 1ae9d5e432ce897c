import itertools
import random
import unittest

from kindredbush.bars import bar_of
from kindredbush.errors import BadKinds, UnknownName
from kindredbush.kinds import Kinds, kinds_ladder, kinds_of, kinds_table
from kindredbush.ladders import Ladder, is_ladder_of
from kindredbush.tables import Table
from tests.support import ODD_VALUES, BUSH_TABLE, T, all_tables, cases, keeps_the_rules, raises

# The kinds of S9.8.
PETS = Kinds([("dog", "pet"), ("cat", "pet"), ("pet", None)])


def plain_under(pairs, kind, other):
    """S9.1 word by word."""
    elders = dict(pairs)
    while kind is not None:
        if kind == other:
            return True
        kind = elders[kind]
    return False


def plain_table(pairs):
    """S9.2 word by word."""
    names = [kind for kind, _ in pairs]
    return Table(names, names, [(one, other) for one in names for other in names if plain_under(pairs, one, other)])


def all_pairs(names):
    """All pairs of these kinds, in this order, with each choice of elders that makes no ring."""
    for elders in itertools.product([None, *names], repeat=len(names)):
        pairs = list(zip(names, elders))
        told = dict(pairs)
        for kind in names:
            here, far = kind, 0
            while here is not None and far <= len(names):
                here, far = told[here], far + 1
            if here is not None:
                break
        else:
            yield pairs


def some_pairs(chance, many):
    names = [f"n{number}" for number in range(many)]
    chance.shuffle(names)
    pairs = [(kind, chance.choice([None] + names[:number])) for number, kind in enumerate(names)]
    chance.shuffle(pairs)
    return pairs


def same_up_to_order(one, other):
    return (sorted(one.stems()), sorted(one.places()), sorted(one.fits())) == (
        sorted(other.stems()), sorted(other.places()), sorted(other.fits()))


class WrongParts(unittest.TestCase):
    def wrong(self, path, pairs):
        raises(self, BadKinds, {"path": path}, Kinds, pairs)

    def test_lists(self):
        for value in cases(self, [one for one in ODD_VALUES if not isinstance(one, (list, tuple))] + ["ab", {"a": None}]):
            self.wrong((), value)

    def test_pairs(self):
        good = [("a", None), ("b", "a")]
        for value in cases(self, [one for one in ODD_VALUES if not (isinstance(one, tuple) and len(one) == 2)]):
            self.wrong((0,), [value])
            self.wrong((2,), good + [value, ("b", "nothere"), None])
        for value in ([("a", None, None)], [["a", None]], [("a",)], ["ab"], [()], (["a", None],)):
            self.wrong((0,), value)

    def test_kinds(self):
        for value in cases(self, ODD_VALUES + ["A", "a b", "1"]):
            if value not in ("x",):
                self.wrong((0, 0), [(value, None)])
                self.wrong((1, 0), [("a", "nothere"), (value, None), None])
        self.wrong((1, 0), [("a", None), ("a", None)])
        self.wrong((2, 0), (("a", "b"), ("b", "a"), ("a", "b")))

    def test_elders(self):
        for value in cases(self, [one for one in ODD_VALUES if one is not None] + ["c", "A"]):
            self.wrong((0, 1), [("a", value), ("b", "a")])
            self.wrong((1, 1), [("a", "b"), ("b", value)])
            self.wrong((2, 1), [("a", "b"), ("b", "a"), ("d", value)])

    def test_rings(self):
        self.wrong((0, 1), [("a", "a")])
        self.wrong((1, 1), [("b", "a"), ("a", "a")])
        self.wrong((0, 1), [("a", "b"), ("b", "a")])
        self.wrong((1, 1), [("c", "a"), ("a", "b"), ("b", "a")])
        self.wrong((2, 1), [("c", None), ("e", "d"), ("a", "b"), ("d", "a"), ("b", "a")])
        self.wrong((1, 1), [("a", "b"), ("b", "c"), ("c", "d"), ("d", "b")])

    def test_word_by_word(self):
        """All choices of elders: the first kind from which one comes back to it."""
        names = ["a", "b", "c", "d"]
        for elders in itertools.product([None, *names], repeat=4):
            pairs = list(zip(names, elders))
            back = []
            for number, kind in enumerate(names):
                here = dict(pairs)[kind]
                for _ in names:
                    if here == kind:
                        back.append(number)
                    here = dict(pairs).get(here)
            if back:
                self.wrong((min(back), 1), pairs)
            else:
                self.assertEqual(Kinds(pairs).pairs(), pairs)


class Methods(unittest.TestCase):
    def test_word_by_word(self):
        for pairs in itertools.chain(all_pairs(["a", "b", "c"]), all_pairs(["d", "b", "c", "a"])):
            kinds = Kinds(tuple(pairs))
            names = [kind for kind, _ in pairs]
            self.assertEqual((kinds.pairs(), kinds.kinds()), (pairs, names))
            for kind, elder in pairs:
                self.assertEqual(kinds.elder(kind), elder)
                above = [other for other in names if other != kind and plain_under(pairs, kind, other)]
                self.assertEqual(sorted(kinds.elders(kind)), sorted(above))
                self.assertEqual(kinds.elders(kind)[:1], [elder] if elder else [])
                for one, other in zip(kinds.elders(kind), kinds.elders(kind)[1:]):
                    self.assertEqual(kinds.elder(one), other)
                for other in names:
                    self.assertIs(kinds.is_under(kind, other), plain_under(pairs, kind, other))
                    common = [one for one in [kind] + kinds.elders(kind) if plain_under(pairs, other, one)]
                    self.assertEqual(kinds.common_kind(kind, other), common[0] if common else None)

    def test_examples(self):
        self.assertEqual((PETS.elder("dog"), PETS.elder("pet"), PETS.elders("cat"), PETS.elders("pet")),
                         ("pet", None, ["pet"], []))
        self.assertEqual((PETS.is_under("dog", "pet"), PETS.is_under("pet", "dog"), PETS.is_under("cat", "cat")),
                         (True, False, True))
        self.assertEqual((PETS.common_kind("dog", "cat"), PETS.common_kind("dog", "dog")), ("pet", "dog"))
        self.assertIsNone(Kinds([("a", None), ("b", None)]).common_kind("a", "b"))

    def test_unknown_names(self):
        for value in cases(self, ODD_VALUES + ["bird"]):
            for method in (PETS.elder, PETS.elders):
                raises(self, UnknownName, {"name": value}, method, value)
            for method in (PETS.is_under, PETS.common_kind):
                raises(self, UnknownName, {"name": value}, method, value, "dog")
                raises(self, UnknownName, {"name": value}, method, value, "bird")
                raises(self, UnknownName, {"name": value}, method, "dog", value)
                raises(self, UnknownName, {"name": value}, method, "pet", value)

    def test_equality(self):
        pairs = PETS.pairs()
        self.assertIs(PETS == Kinds(tuple(pairs)), True)
        self.assertIs(PETS == Kinds(pairs[::-1]), False)
        self.assertIs(PETS == Kinds(pairs[:2][::-1] + pairs[2:]), False)
        self.assertIs(PETS == Kinds([("dog", "pet"), ("cat", None), ("pet", None)]), False)
        self.assertIs(Kinds([]) == Kinds(()), True)
        for value in ODD_VALUES + [pairs, tuple(pairs)]:
            self.assertIs(PETS == value, False)

    def test_twenty_four(self):
        chance = random.Random(320)
        pairs = some_pairs(chance, 24)
        kinds = Kinds(pairs)
        for kind, _ in pairs:
            for other, _ in pairs:
                self.assertIs(kinds.is_under(kind, other), plain_under(pairs, kind, other))
        line = [(f"n{number}", f"n{number + 1}") for number in range(23)] + [("n23", None)]
        self.assertEqual(Kinds(line).elders("n0"), [f"n{number}" for number in range(1, 24)])
        raises(self, BadKinds, {"path": (0, 1)}, Kinds, line[:-1] + [("n23", "n0")])
        raises(self, BadKinds, {"path": (23, 1)}, Kinds, line[:-1] + [("n23", "n23")])

    def test_a_list_that_was_passed(self):
        pairs = [("dog", "pet"), ("pet", None)]
        kinds = Kinds(pairs)
        pairs.append(("cat", None))
        kinds.pairs().append(("cat", None))
        kinds.kinds().append("cat")
        kinds.elders("dog").append("cat")
        self.assertEqual((kinds.pairs(), kinds.kinds(), kinds.elders("dog")),
                         ([("dog", "pet"), ("pet", None)], ["dog", "pet"], ["pet"]))


class Tables(unittest.TestCase):
    def check(self, pairs):
        kinds = Kinds(pairs)
        table, ladder = kinds_table(kinds), kinds_ladder(kinds)
        self.assertEqual(table, plain_table(pairs))
        names = [kind for kind, _ in pairs]
        homes = [(kind, kind) for kind in names]
        self.assertEqual(ladder, Ladder(names, [pair for pair in pairs if pair[1]], homes, homes))
        self.assertIs(is_ladder_of(ladder, table), True)
        self.assertIsNone(bar_of(table))
        self.assertEqual(kinds_of(table), kinds)

    def test_word_by_word(self):
        for names in ([], ["a"], ["b", "a"], ["a", "b", "c"], ["d", "b", "a", "c"]):
            for pairs in all_pairs(names):
                self.check(pairs)

    def test_eight(self):
        chance = random.Random(321)
        for _ in range(40):
            self.check(some_pairs(chance, 8))

    def test_examples(self):
        self.assertEqual(kinds_table(PETS), Table(["dog", "cat", "pet"], ["dog", "cat", "pet"], [
            ("dog", "dog"), ("dog", "pet"), ("cat", "cat"), ("cat", "pet"), ("pet", "pet")]))
        self.assertEqual((kinds_table(Kinds([])), kinds_ladder(Kinds([]))), (Table([], [], []), Ladder([], [], [], [])))

    def test_all_tables(self):
        """Those of three colours: kinds in the order of the stems, exactly for tables that are such up to order."""
        for names in ([], ["a"], ["a", "b"], ["a", "b", "c"]):
            known = [plain_table(pairs) for pairs in all_pairs(names)]
            for table in all_tables(names, names[::-1]):
                found = kinds_of(table)
                wanted = [one for one in known if same_up_to_order(one, table)]
                self.assertLessEqual(len(wanted), 1)
                if found is None:
                    self.assertEqual(wanted, [])
                else:
                    self.assertTrue(same_up_to_order(plain_table(found.pairs()), table))
                    self.assertEqual(found.kinds(), table.stems())
                    self.assertEqual(len(wanted), 1)

    def test_other_orders(self):
        chance = random.Random(322)
        for _ in range(40):
            pairs = some_pairs(chance, 7)
            table = plain_table(pairs)
            places, fits = table.places(), table.fits()
            chance.shuffle(places)
            chance.shuffle(fits)
            self.assertEqual(kinds_of(Table(table.stems(), places, fits)), Kinds(pairs))

    def test_none(self):
        """The five points of S9.3, each broken alone."""
        pairs = [("a", "b"), ("b", "c"), ("c", None), ("d", "c")]
        table = plain_table(pairs)
        names = table.stems()
        for other in [T, BUSH_TABLE, Table(names, names + ["e"], table.fits()), Table(names + ["e"], names, table.fits()),
                      Table(names, names, table.fits()[1:]), Table(names, names, table.fits() + [("c", "b")]),
                      Table(names, names, [fit for fit in table.fits() if fit != ("a", "c")]),
                      Table(names, names, table.fits() + [("a", "d")]), Table(names, names, []),
                      Table(["a", "b"], ["a", "b"], [("a", "b"), ("b", "a")]),
                      Table(["a", "b"], ["a", "b"], [("a", "a"), ("b", "b"), ("a", "b"), ("b", "a")]),
                      Table(["a", "b"], ["a", "b"], [("a", "b"), ("b", "b")]),
                      Table(["a"], ["b"], [("a", "b")]), Table([], ["a"], []), Table(["a"], [], [])]:
            self.assertIsNone(kinds_of(other))
        self.assertEqual(kinds_of(Table([], [], [])), Kinds([]))


class Rules(unittest.TestCase):
    def test_rules(self):
        for call in [(Kinds, PETS.pairs()), (Kinds, []), (kinds_table, PETS), (kinds_ladder, PETS), (PETS.pairs,),
                     (kinds_of, kinds_table(PETS)), (kinds_of, T), (PETS.kinds,), (PETS.elders, "dog"),
                     (PETS.elder, "dog"), (PETS.is_under, "dog", "cat"), (PETS.common_kind, "dog", "cat")]:
            keeps_the_rules(self, *call)
