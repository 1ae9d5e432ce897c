import copy
import random
import time
import unittest

from kindredbush.acts import stand_after
from kindredbush.bags import Bag
from kindredbush.bars import bar_of
from kindredbush.coins import due, judge_way
from kindredbush.errors import BadAct, NothingDone, UnknownName, UnlikeGroves
from kindredbush.groves import Grove
from kindredbush.house import House
from kindredbush.scripts import first_bad, price
from tests.support import GROVE, ODD_VALUES, OTHER_GROVE, cases, keeps_the_rules, raises
from tests.test_acts import (AIMED, DOMINO_GOAL, DOMINO_GROVE, HANG, LONE, P0, P1, Q0, ROOT, SWAP, TWIN, check_stand,
                             plain_word, some_act)
from tests.test_coins import grown, nested_table, some_joints
from tests.test_deeds import EMPTY
from tests.test_pieces import FREE, some_groves
from tests.test_plainwalks import free_grove

TO_OTHER = ("goal", tuple(OTHER_GROVE.bushes()))
NO_GOAL = ("goal", None)


def stands_of(grove, acts):
    """The stands through which acts lead, the first one included."""
    found = [(grove, (), None)]
    for act in acts:
        found.append(stand_after(found[-1], act))
    return found


def plain_waste(grove, acts):
    """S10.5 word by word, and the sum over the deeds that it is."""
    stands = stands_of(grove, acts)
    if stands[-1][2] is None:
        return None
    last = max(number for number, act in enumerate(acts) if act[0] == "goal")
    total = 0
    for number in range(last + 1, len(acts)):
        if acts[number][0] in ("hang", "stretch"):
            (f, _, goal), (g, _, _) = stands[number], stands[number + 1]
            total += price([acts[number]]) - (due(f, goal) - due(g, goal))
    spent = price([act for act in acts[last + 1:] if act[0] in ("hang", "stretch")])
    assert total == spent - due(stands[last + 1][0], stands[last + 1][2]) + due(stands[-1][0], stands[-1][2])
    return total


def house_of(grove, acts):
    house = House(grove)
    house.tried(acts)
    return house


class Model:
    """What a house is by S10.4 to S10.7, kept as lists of acts and of pairs alone."""

    def __init__(self, grove):
        self.start, self.acts, self.further, self.marks = grove, [], [], []

    def check(self, test, house):
        stand = stands_of(self.start, self.acts)[-1]
        grove, nails, goal = stand
        test.assertEqual((house.grove(), house.nails(), house.goal(), house.stand()), (grove, list(nails), goal, stand))
        check_stand(test, house.stand())
        test.assertEqual(house.kin(), grove.bag().table())
        test.assertEqual((house.done(), house.undone()), (self.acts, self.further))
        test.assertEqual(house.paid(), price([act for act in self.acts if act[0] in ("hang", "stretch")]))
        wanted = None if goal is None else due(grove, goal)
        test.assertEqual(house.due(), wanted)
        left = wanted if bar_of(house.kin()) is None else None
        test.assertEqual(house.left(), left)
        waste = house.waste()
        test.assertEqual(waste, plain_waste(self.start, self.acts))
        if waste is not None:
            test.assertEqual((waste % 2, waste >= 0), (0, True))
        way = house.way()
        test.assertEqual(way is None, left is None)
        if way is not None:
            test.assertIsNone(judge_way(grove, goal, way))
            behind = house.would(way)
            test.assertEqual(behind, (goal, nails, goal))
        test.assertEqual(house.marks(), [name for name, _ in self.marks])
        for name, mark in self.marks:
            test.assertEqual(house.marked(name), mark)
            if (mark.bag(), mark.roots()) == (grove.bag(), grove.roots()):
                test.assertEqual(house.due_to(name), due(grove, mark))
            else:
                raises(test, UnlikeGroves, {}, house.due_to, name)

    def step(self, test, chance, house):
        """Something is done in the house and here."""
        kind = chance.random()
        if kind < 0.15:
            self.undo(test, house)
        elif kind < 0.3:
            self.redo(test, house)
        elif kind < 0.4:
            name = chance.choice("abc")
            test.assertIsNone(house.keep(name))
            self.marks = [pair if pair[0] != name else (name, house.grove()) for pair in self.marks]
            if name not in [known for known, _ in self.marks]:
                self.marks.append((name, house.grove()))
        else:
            act = some_act(chance, house.stand())
            word = plain_word(house.stand(), act)
            if word is not None:
                raises(test, BadAct, {"word": word}, house.do, act)
                raises(test, BadAct, {"word": word}, house.tried, [act])
            elif len(house.grove().rows()) < 8 or act[0] != "plant":
                self.acts.append(act)
                self.further = []
                test.assertEqual(house.do(act), len(self.acts))

    def undo(self, test, house):
        if self.acts:
            self.further.insert(0, self.acts.pop())
            test.assertEqual(house.undo(), len(self.acts))
        else:
            raises(test, NothingDone, {}, house.undo)

    def redo(self, test, house):
        if self.further:
            self.acts.append(self.further.pop(0))
            test.assertEqual(house.redo(), len(self.acts))
        else:
            raises(test, NothingDone, {}, house.redo)


class Histories(unittest.TestCase):
    def test_word_by_word(self):
        chance = random.Random(370)
        for start in [GROVE, DOMINO_GROVE, TWIN, EMPTY, LONE] + some_groves(371, 3, 5):
            house, model = House(start), Model(start)
            for _ in range(60):
                model.step(self, chance, house)
                model.check(self, house)
            other = house.twin()
            model.check(self, other)

    def test_thirty_joints_and_eight_roots(self):
        chance = random.Random(372)
        start = time.monotonic()
        bag = Bag(FREE, [(f"j{n}", "k", ("l",) * (n < 22)) for n in range(30)])
        bushes = [(f"j{n}",) for n in range(22, 30)]
        for n in range(22):
            bushes[n % 8] = (f"j{n}", bushes[n % 8])
        house = House(Grove(bag, ["l"] * 8, bushes))
        house.do(("goal", tuple(bushes[::-1])))
        many = 1
        while many < 100:
            deed = ("stretch", *[("root", number) for number in chance.sample(range(8), 2) for _ in range(2)])
            deed = chance.choice([("hang", deed[1], deed[3]), ("stretch", deed[1], house.grove().place("j22"), deed[3],
                                                               deed[3])])
            try:
                many = house.do(deed)
            except BadAct:
                continue
        self.assertEqual((house.paid() >= 99, house.waste() % 2), (True, 0))
        raises(self, BadAct, {"word": "many"}, house.do, ("plant", "l", (("new", "k", ()),), ("new",)))
        house.do(("fell", 3))
        self.assertEqual(len(house.grove().roots()), 7)
        for number in range(many + 1):
            house.undo()
        self.assertEqual(house.stand(), (Grove(bag, ["l"] * 8, bushes), (), None))
        for number in range(many + 1):
            house.redo()
        self.assertLess(time.monotonic() - start, 20)

    def test_undoing_and_redoing_with_acts_between(self):
        house = House(GROVE)
        self.assertEqual([house.do(act) for act in (HANG, ("nail", ROOT), ("nail", Q0))], [1, 2, 3])
        self.assertEqual((house.undo(), house.undo(), house.undone()), (2, 1, [("nail", ROOT), ("nail", Q0)]))
        self.assertEqual((house.redo(), house.done(), house.undone()), (2, [HANG, ("nail", ROOT)], [("nail", Q0)]))
        raises(self, BadAct, {"word": "place"}, house.do, ("nail", ROOT))
        self.assertEqual(house.undone(), [("nail", Q0)])
        self.assertEqual((house.tried([]), house.undone()), (2, [("nail", Q0)]))
        self.assertEqual((house.do(("free", ROOT)), house.undone()), (3, []))
        raises(self, NothingDone, {}, house.redo)
        for wanted in (2, 1, 0):
            self.assertEqual(house.undo(), wanted)
        raises(self, NothingDone, {}, house.undo)
        self.assertEqual((house.stand(), house.undone()), ((GROVE, (), None), [HANG, ("nail", ROOT), ("free", ROOT)]))

    def test_keeping_loses_nothing(self):
        house = house_of(GROVE, [HANG])
        house.undo()
        house.keep("a")
        self.assertEqual((house.undone(), house.redo(), house.marked("a")), ([HANG], 1, GROVE))


class Many(unittest.TestCase):
    def test_one_hundred_and_twenty(self):
        house = House(GROVE)
        for number in range(120):
            self.assertEqual(house.do(NO_GOAL), number + 1)
        raises(self, BadAct, {"word": "many"}, house.do, NO_GOAL)
        raises(self, BadAct, {"word": "many"}, house.do, HANG)
        raises(self, BadAct, {"word": "form"}, house.do, None)
        raises(self, BadAct, {"word": "place"}, house.do, ("free", ROOT))
        raises(self, BadAct, {"word": "many"}, house.tried, [NO_GOAL])
        raises(self, BadAct, {"word": "many"}, house.would, [NO_GOAL])
        self.assertEqual((house.tried([]), house.would([])), (120, (GROVE, (), None)))
        self.assertEqual(house.undo(), 119)
        self.assertEqual((house.redo(), house.undo(), house.do(HANG)), (120, 119, 120))
        raises(self, BadAct, {"word": "many"}, house.do, HANG)
        self.assertEqual((house.grove().joint(P0), house.paid()), ("r", 1))

    def test_lists(self):
        house = House(GROVE)
        raises(self, BadAct, {"word": "many"}, house.tried, [HANG] * 121)
        raises(self, BadAct, {"word": "many"}, house.would, [HANG] * 130)
        raises(self, BadAct, {"word": "form"}, house.tried, [HANG] * 120 + [None])
        self.assertEqual((house.done(), house.grove()), ([], GROVE))
        self.assertEqual(house.tried([HANG] * 119), 119)
        raises(self, BadAct, {"word": "many"}, house.tried, [HANG, HANG])
        self.assertEqual(len(house.done()), 119)
        self.assertEqual(house.tried((HANG,)), 120)
        self.assertEqual(house.paid(), 120)


class Tried(unittest.TestCase):
    def test_all_or_none(self):
        house = house_of(GROVE, [("nail", Q0)])
        house.do(HANG)
        house.undo()
        before = (house.stand(), house.done(), house.undone())
        for bad, word in [(None, "form"), (("free", P0), "place"), (("allow", "a", "x"), "fit")]:
            for acts in ([bad], [HANG, bad], [HANG, ("nail", P1), bad, HANG], (HANG, bad)):
                raises(self, BadAct, {"word": word}, house.tried, acts)
                raises(self, BadAct, {"word": word}, house.would, acts)
                self.assertEqual((house.stand(), house.done(), house.undone()), before)
        self.assertEqual(house.would([HANG, HANG]), (GROVE, (Q0,), None))
        self.assertEqual(house.would(()), house.stand())
        self.assertEqual((house.stand(), house.done(), house.undone()), before)
        self.assertEqual(house.tried([HANG, ("nail", P1)]), 3)
        self.assertEqual((house.done(), house.undone()), ([("nail", Q0), HANG, ("nail", P1)], []))

    def test_what_is_no_act(self):
        house = House(GROVE)
        for value in cases(self, ODD_VALUES):
            raises(self, BadAct, {"word": "form"}, house.do, value)
            raises(self, BadAct, {"word": "form"}, house.tried, [HANG, value])
            raises(self, BadAct, {"word": "form"}, house.would, [value])
        self.assertEqual((house.done(), house.grove()), ([], GROVE))


class Coins(unittest.TestCase):
    def test_without_a_goal(self):
        house = house_of(GROVE, [HANG])
        self.assertEqual((house.paid(), house.due(), house.waste(), house.left(), house.way()), (1, None, None, None, None))

    def test_with_a_goal(self):
        house = house_of(GROVE, [HANG, TO_OTHER])
        self.assertEqual((house.paid(), house.due(), house.waste(), house.left()), (1, 3, 0, 3))
        house.tried([HANG])
        self.assertEqual((house.paid(), house.due(), house.waste(), house.left()), (2, 2, 0, 2))
        house.tried([HANG, HANG])
        self.assertEqual((house.paid(), house.due(), house.waste(), house.left()), (4, 2, 2, 2))
        house.tried(house.way())
        self.assertEqual((house.grove(), house.due(), house.waste(), house.left(), house.way()), (OTHER_GROVE, 0, 2, 0, []))

    def test_a_goal_given_again(self):
        house = house_of(GROVE, [TO_OTHER, HANG, HANG])
        self.assertEqual(house.waste(), 2)
        house.do(TO_OTHER)
        self.assertEqual((house.waste(), house.paid()), (0, 2))
        house.do(HANG)
        self.assertEqual((house.waste(), house.due()), (2, 3))
        house.do(NO_GOAL)
        self.assertEqual((house.waste(), house.due(), house.paid()), (None, None, 3))
        house.undo()
        self.assertEqual((house.waste(), house.due()), (2, 3))

    def test_fits_that_come_and_go(self):
        """Allowing and forbidding change nothing in what is due and wasted."""
        house = house_of(GROVE, [TO_OTHER, HANG])
        for act in (("allow", "b", "x"), ("forbid", "b", "x")):
            house.do(act)
            self.assertEqual((house.due(), house.waste(), house.paid(), house.left()), (3, 2, 1, 3))

    def test_a_bush_that_comes_and_goes(self):
        house = house_of(GROVE, [TO_OTHER, ("plant", "y", (("v", "b", ()),), ("v",))])
        self.assertEqual((house.goal(), house.due(), house.waste()), (None, None, None))
        house.tried([("goal", (*OTHER_GROVE.bushes(), ("v",))), ("fell", 1)])
        self.assertEqual((house.goal(), house.waste(), house.grove()), (None, None, GROVE))
        house.undo()
        self.assertEqual((house.due(), house.waste()), (2, 0))

    def test_example(self):
        """S10.9."""
        house = house_of(DOMINO_GROVE, [("goal", tuple(DOMINO_GOAL.bushes()))])
        self.assertEqual((house.due(), house.left(), house.way(), house.waste()), (3, None, None, 0))
        raises(self, BadAct, {"word": "stands"}, house.do, ("forbid", "c", "q"))
        self.assertEqual(house.do(("allow", "b", "w")), 2)
        self.assertEqual((house.due(), house.left(), bar_of(house.kin())), (3, 3, None))
        raises(self, BadAct, {"word": "stands"}, house.do, ("forbid", "c", "q"))
        way = house.way()
        self.assertEqual(price(way), 3)
        house.tried(way)
        self.assertEqual((house.grove(), house.waste(), house.left()), (house.goal(), 0, 0))

    def test_a_way_is_not_kept_up_to_date(self):
        house = house_of(GROVE, [TO_OTHER])
        way = house.way()
        house.tried(way)
        self.assertEqual(way, [SWAP])
        self.assertIsNotNone(first_bad(house.grove(), way + way))

    def test_a_way_past_nails(self):
        house = house_of(GROVE, [("nail", P1), TO_OTHER])
        self.assertEqual(house.tried(house.way()), 3)
        self.assertEqual((house.grove(), house.nails()), (OTHER_GROVE, [P1]))

    def test_sixteen_joints(self):
        chance = random.Random(373)
        start = time.monotonic()
        met = 0
        while met < 3:
            bag, roots = some_joints(chance, nested_table(chance), 16)
            f, g = grown(chance, bag, roots), grown(chance, bag, roots)
            if f is not None and g is not None and due(f, g) > 5:
                met += 1
                house = house_of(f, [("goal", tuple(g.bushes()))])
                left = house.left()
                for deed in house.way():
                    house.do(deed)
                self.assertEqual((house.grove(), house.paid(), house.waste(), house.left()), (g, left, 0, 0))
        self.assertLess(time.monotonic() - start, 30)


class Marks(unittest.TestCase):
    def test_names(self):
        house = House(GROVE)
        for value in cases(self, [one for one in ODD_VALUES if one != "x"]):
            raises(self, UnknownName, {"name": value}, house.keep, value)
            raises(self, UnknownName, {"name": value}, house.marked, value)
            raises(self, UnknownName, {"name": value}, house.due_to, value)
        self.assertEqual(house.marks(), [])
        raises(self, UnknownName, {"name": "a"}, house.marked, "a")
        raises(self, UnknownName, {"name": "a"}, house.due_to, "a")

    def test_kept_again(self):
        house = House(GROVE)
        for name in ("b", "a", "root", "c"):
            house.keep(name)
        house.do(HANG)
        house.keep("a")
        self.assertEqual(house.marks(), ["b", "a", "root", "c"])
        self.assertEqual((house.marked("a"), house.marked("b")), (house.grove(), GROVE))
        self.assertEqual((house.due_to("a"), house.due_to("b")), (0, 1))
        house.undo()
        self.assertEqual((house.due_to("a"), house.due_to("b"), house.marks()), (1, 0, ["b", "a", "root", "c"]))

    def test_over_another_table(self):
        house = House(GROVE)
        house.keep("a")
        house.do(("allow", "b", "x"))
        raises(self, UnlikeGroves, {}, house.due_to, "a")
        self.assertEqual(house.marked("a"), GROVE)
        house.keep("b")
        self.assertEqual(house.due_to("b"), 0)
        house.tried([("forbid", "b", "x"), HANG])
        self.assertEqual(house.due_to("a"), 1)
        raises(self, UnlikeGroves, {}, house.due_to, "b")

    def test_other_joints_and_roots(self):
        house = House(GROVE)
        house.keep("a")
        house.do(("plant", "y", (("v", "b", ()),), ("v",)))
        raises(self, UnlikeGroves, {}, house.due_to, "a")
        house.do(("fell", 1))
        self.assertEqual(house.due_to("a"), 0)
        self.assertEqual(house.marked("a"), GROVE)

    def test_twenty(self):
        house = House(GROVE)
        names = [f"m{number}" for number in range(20, 0, -1)]
        for name in names:
            house.keep(name)
        self.assertEqual(house.marks(), names)


class Twins(unittest.TestCase):
    def test_twin(self):
        house = house_of(GROVE, [HANG, TO_OTHER, ("allow", "b", "x")])
        house.undo()
        house.keep("a")
        other = house.twin()
        self.assertIs(house == other, True)
        self.assertEqual((other.stand(), other.done(), other.undone(), other.marks(), other.waste(), other.paid()),
                         (house.stand(), house.done(), house.undone(), house.marks(), house.waste(), house.paid()))
        before = (house.stand(), house.done(), house.undone(), house.marks(), house.marked("a"))
        other.redo()
        self.assertIs(house == other, False)
        other.undo()
        self.assertIs(house == other, True)
        other.undo()
        other.keep("a")
        other.keep("b")
        other.do(NO_GOAL)
        self.assertEqual((house.stand(), house.done(), house.undone(), house.marks(), house.marked("a")), before)
        house.undo()
        self.assertEqual((house.redo(), house.redo()), (2, 3))

    def test_equality(self):
        def told(acts=(), undone=0, marks=()):
            house = house_of(GROVE, acts)
            for _ in range(undone):
                house.undo()
            for name in marks:
                house.keep(name)
            return house
        houses = [told(), told([HANG]), told([HANG], 1), told([HANG, HANG]), told([("nail", Q0)]), told([NO_GOAL]),
                  told([], 0, "a"), told([], 0, "ab"), told([], 0, "ba"), told([HANG], 0, "a"), House(OTHER_GROVE),
                  told([HANG, HANG], 1), told([HANG, HANG], 2), told([("hang", P1, P0)])]
        marked = told([], 0, "a")
        marked.do(HANG)
        marked.keep("a")
        marked.undo()
        unmarked = told([HANG], 1, "a")
        for number, one in enumerate(houses + [marked, unmarked]):
            for at, other in enumerate(houses + [marked, unmarked]):
                self.assertIs(one == other, number == at)
        for one in houses:
            self.assertIs(one == one.twin(), True)
            self.assertIs(one == copy.deepcopy(one), True)
            for value in ODD_VALUES[:-1] + [one.stand(), one.grove()]:
                self.assertIs(one == value, False)

    def test_the_same_stand_by_other_acts(self):
        self.assertIs(house_of(GROVE, [HANG, HANG]) == House(GROVE), False)
        over = Grove(Bag(GROVE.bag().table(), GROVE.bag().joints()), ("x",), GROVE.bushes())
        self.assertIs(House(over) == House(GROVE), True)


class Rules(unittest.TestCase):
    def test_rules(self):
        house = house_of(GROVE, [("nail", P1), TO_OTHER, SWAP])
        house.undo()
        house.keep("a")
        twin = house.twin()
        for method in (house.grove, house.goal, house.nails, house.stand, house.kin, house.done, house.undone, house.paid,
                       house.due, house.waste, house.left, house.way, house.marks, house.twin):
            keeps_the_rules(self, method)
        for call in [(house.would, [SWAP]), (house.would, []), (house.marked, "a"), (house.due_to, "a"), (House, GROVE)]:
            keeps_the_rules(self, *call)
        self.assertIs(house == twin, True)

    def test_acts_are_kept_as_they_were_passed(self):
        house = House(GROVE)
        acts = [("hang", P1, P0), ("plant", "y", (("v", "b", ()),), ("v",)), ("goal", None)]
        house.tried(acts)
        acts.append(HANG)
        self.assertEqual(house.done(), acts[:3])
        self.assertTrue(all(one is other for one, other in zip(house.done(), acts)))
        house.done().append(HANG)
        house.nails().append(ROOT)
        house.undo()
        self.assertTrue(house.undone()[0] is acts[2])
        house.undone().clear()
        self.assertEqual((house.redo(), house.done()), (3, acts[:3]))

    def test_kinds_of_values(self):
        house = House(GROVE)
        self.assertEqual((type(house.nails()), type(house.stand()), type(house.stand()[1])), (list, tuple, tuple))
        self.assertEqual((house.stand(), house.goal(), AIMED[0]), ((GROVE, (), None), None, GROVE))
        for number in (house.do(HANG), house.undo(), house.redo(), house.tried([]), house.paid()):
            self.assertIs(type(number), int)

    def test_no_roots(self):
        house = House(EMPTY)
        self.assertEqual((house.do(("goal", ())), house.goal(), house.due(), house.left(), house.way(), house.waste()),
                         (1, EMPTY, 0, 0, [], 0))
        self.assertEqual((house.do(NO_GOAL), house.goal(), house.due()), (2, None, None))

    def test_nothing_is_left_behind(self):
        """A refused act of each kind leaves all as it was."""
        start = free_grove(1, 0, 0)
        house = house_of(start, [("nail", ("root", 0)), ("goal", tuple(start.bushes()))])
        twin = house.twin()
        for act in [("nail", ("root", 0)), ("free", ("root", 1)), ("allow", "k", "l"), ("forbid", "k", "l"), ("fell", 2),
                    ("plant", "l", (), ()), ("goal", ()), ("hang", ("root", 0), ("root", 1)), ("deed",)]:
            with self.assertRaises(BadAct):
                house.do(act)
            self.assertIs(house == twin, True)
            self.assertEqual(house.stand(), twin.stand())
