import random
import time
import unittest

from kindredbush.acts import act_word, good_acts, stand_after
from kindredbush.bags import Bag, is_place, places_of
from kindredbush.bars import bar_of
from kindredbush.changes import changed
from kindredbush.deeds import all_deeds, done
from kindredbush.errors import BadAct, BadBag, BadGrove, UnknownName
from kindredbush.groves import Grove
from kindredbush.pieces import is_deed
from kindredbush.tables import Table, with_fit, without_fit
from tests.support import (BAG, BUSH_TABLE, DOMINO_TABLE, GROVE, ODD_VALUES, OTHER_GROVE, cases, keeps_the_rules,
                           raises, some_table)
from tests.test_deeds import EMPTY
from tests.test_groves import all_groves
from tests.test_pieces import FREE, some_groves

ROOT, P0, P1, Q0 = ("root", 0), ("p", 0), ("p", 1), ("q", 0)
HANG = ("hang", P0, P1)
SWAP = ("stretch", ROOT, P0, P0, Q0)
START = (GROVE, (), None)
AIMED = (GROVE, (P1,), OTHER_GROVE)
# The table, the bag, the grove and the goal of S10.9.
DOMINO_BAG = Bag(DOMINO_TABLE, [("c", "c", ("p",)), ("a", "a", ("w", "p")), ("b", "b", ("q",)), ("d", "a", ()),
                                ("e", "b", ())])
DOMINO_GROVE = Grove(DOMINO_BAG, ("q",), [("c", ("a", ("d",), ("b", ("e",))))])
DOMINO_GOAL = Grove(DOMINO_BAG, ("q",), [("b", ("a", ("c", ("e",)), ("d",)))])
SIZES = {"hang": 3, "stretch": 5, "allow": 3, "forbid": 3, "nail": 2, "free": 2, "goal": 2, "plant": 4, "fell": 2}
# All joints of it have the same stem, two branches or none.
TWIN_BAG = Bag(FREE, [("a", "k", ("l", "l")), ("b", "k", ()), ("c", "k", ()), ("d", "k", ())])
TWIN = Grove(TWIN_BAG, ["l", "l"], [("a", ("b",), ("c",)), ("d",)])
LONE = Grove(Bag(DOMINO_TABLE, [("r", "a", ())]), ["q"], [("r",)])


def made(kind, *parts):
    """The object of a class, or None if its parts are wrong."""
    try:
        return kind(*parts)
    except (BadBag, BadGrove):
        return None


def plain_word(stand, act):
    """S10.3 word by word."""
    grove, nails, goal = stand
    bag, roots = grove.bag(), grove.roots()
    table = bag.table()
    if not isinstance(act, tuple) or not act or not isinstance(act[0], str) or SIZES.get(act[0]) != len(act):
        return "form"
    word = act[0]
    if word in ("hang", "stretch"):
        if not is_deed(grove, act):
            return "deed"
        after = done(grove, act)
        return "nail" if any(after.joint(place) != grove.joint(place) for place in nails) else None
    if word in ("allow", "forbid"):
        try:
            fits = table.is_fit(*act[1:])
        except UnknownName:
            return "colour"
        if fits != (word == "forbid"):
            return "fit"
        if word == "forbid" and made(Grove, Bag(without_fit(table, *act[1:]), bag.joints()), roots, grove.bushes()) is None:
            return "stands"
        if word == "forbid" and goal is not None and made(
                Grove, Bag(without_fit(table, *act[1:]), bag.joints()), roots, goal.bushes()) is None:
            return "stands"
        return None
    if word in ("nail", "free"):
        if act[1] not in [place for place in places_of(bag, roots) if (place in nails) == (word == "free")] or not is_place(
                bag, roots, act[1]):
            return "place"
        return "goal" if word == "nail" and goal is not None and goal.joint(act[1]) != grove.joint(act[1]) else None
    if word == "goal":
        if act[1] is None:
            return None
        new = made(Grove, bag, roots, act[1]) if isinstance(act[1], tuple) else None
        if new is None:
            return "grove"
        return "nail" if any(new.joint(place) != grove.joint(place) for place in nails) else None
    if word == "fell":
        return None if is_place(bag, roots, ("root", act[1])) else "place"
    return plain_plant_word(bag, roots, *act[1:])


def plain_plant_word(bag, roots, colour, joints, bush):
    if colour not in bag.table().places():
        return "colour"
    if not isinstance(joints, tuple) or made(Bag, bag.table(), tuple(bag.joints()) + joints) is None:
        return "joints"
    if made(Grove, Bag(bag.table(), joints), [colour], [bush]) is None:
        return "bush"
    return "many" if len(bag.joints()) + len(joints) > 30 or len(roots) == 8 else None


def plain_after(stand, act):
    """S10.2 word by word."""
    grove, nails, goal = stand
    bag, roots, bushes = grove.bag(), grove.roots(), grove.bushes()
    word = act[0]
    if word in ("hang", "stretch"):
        return done(grove, act), nails, goal
    if word in ("allow", "forbid"):
        over = Bag((with_fit if word == "allow" else without_fit)(bag.table(), *act[1:]), bag.joints())
        return Grove(over, roots, bushes), nails, goal and Grove(over, roots, goal.bushes())
    if word == "nail":
        return grove, tuple(place for place in places_of(bag, roots) if place in nails + act[1:]), goal
    if word == "free":
        return grove, tuple(place for place in nails if place != act[1]), goal
    if word == "goal":
        return grove, nails, None if act[1] is None else Grove(bag, roots, act[1])
    if word == "plant":
        more = Bag(bag.table(), tuple(bag.joints()) + act[2])
        return Grove(more, (*roots, act[1]), (*bushes, act[3])), nails, None
    gone = grove.names(("root", act[1]))
    less = Bag(bag.table(), [joint for joint in bag.joints() if joint[0] not in gone])
    numbers = [number for number in range(len(roots)) if number != act[1]]
    moved = {("root", number): ("root", at) for at, number in enumerate(numbers)}
    moved.update({(name, k): (name, k) for name in less.names() for k in range(len(less.branches(name)))})
    return (Grove(less, [roots[number] for number in numbers], [bushes[number] for number in numbers]),
            tuple(moved[place] for place in nails if place in moved), None)


def some_place(chance, grove):
    places = places_of(grove.bag(), grove.roots()) + [("root", len(grove.roots())), ("nothere", 0)]
    return chance.choice(places)


def some_bush(chance, table, names):
    """Joints with these names and a bush of them, of which most may stand where they stand."""
    colours = table.places()
    joints, rows, free = [], {}, [("root", 0, chance.choice(colours))]
    top = free[0][2]
    for name in names:
        if not free:
            break
        owner, number, colour = free.pop(chance.randrange(len(free)))
        stems = table.fits_at(colour) or table.stems()
        branches = tuple(chance.choice(colours) for _ in range(chance.randint(0, 2) if len(names) > 1 else 0))
        joints.append((name, chance.choice(stems if chance.random() < 0.95 else table.stems()), branches))
        rows[(owner, number)] = name
        free += [(name, at, branch) for at, branch in enumerate(branches)]
    while free:
        owner, number, colour = free.pop()
        name = f"{names[0]}x{len(joints)}"
        joints.append((name, chance.choice(table.fits_at(colour) or table.stems()), ()))
        rows[(owner, number)] = name

    def at(place):
        branches = dict((name, many) for name, _, many in joints)[rows[place]]
        return (rows[place], *[at((rows[place], number)) for number in range(len(branches))])
    return top, tuple(joints), at(("root", 0))


def some_act(chance, stand):
    """A tuple that begins and goes on as an act does, and often is one."""
    grove, nails, goal = stand
    table = grove.bag().table()
    word = chance.choice(list(SIZES) + ["hang", "goal", "plant", "hang"])
    if word in ("hang", "stretch"):
        deeds = all_deeds(grove) if chance.random() < 0.7 else []
        return chance.choice(deeds) if deeds else (word, *[some_place(chance, grove) for _ in range(SIZES[word] - 1)])
    if word in ("allow", "forbid"):
        return word, chance.choice(table.stems() + ["nothere"]), chance.choice(table.places() + ["nothere"])
    if word in ("nail", "free"):
        return word, some_place(chance, grove) if word == "nail" or not nails else chance.choice(nails)
    if word == "goal":
        if chance.random() < 0.15:
            return word, None
        if chance.random() < 0.1:
            return word, chance.choice([(), tuple(grove.bushes()[::-1]), tuple(grove.bushes()[:1])])
        here = grove
        for _ in range(chance.randint(0, 3)):
            deeds = [deed for deed in all_deeds(here) if chance.random() < 0.2 or act_word((here, nails, None), deed) is None]
            here = done(here, chance.choice(deeds)) if deeds else here
        return word, tuple(here.bushes())
    if word == "fell":
        return word, chance.randint(-1, len(grove.roots()))
    names = [chance.choice("uvwxyz") + str(chance.randint(0, 9)) for _ in range(chance.randint(1, 3))]
    top, joints, bush = some_bush(chance, table, names)
    if chance.random() < 0.2:
        bush = chance.choice([bush[:1], bush + bush, ("nothere",), bush[1:]])
    return word, top if chance.random() < 0.9 else "nothere", joints, bush


def some_stands(seed, many):
    """Stands to which random acts lead, one from the other."""
    chance = random.Random(seed)
    for start in [GROVE, DOMINO_GROVE, TWIN, EMPTY, LONE] + some_groves(seed, 4, 5):
        stand = (start, (), None)
        for _ in range(many):
            act = some_act(chance, stand)
            yield stand, act
            if plain_word(stand, act) is None and len(stand[0].rows()) < 9:
                stand = plain_after(stand, act)


def check_stand(test, stand):
    """What S10.1 says of stands."""
    grove, nails, goal = stand
    test.assertEqual((type(stand), len(stand), type(nails)), (tuple, 3, tuple))
    test.assertEqual(nails, tuple(place for place in places_of(grove.bag(), grove.roots()) if place in nails))
    test.assertEqual(Grove(grove.bag(), grove.roots(), grove.bushes()), grove)
    if goal is not None:
        test.assertEqual((goal.bag(), goal.roots()), (grove.bag(), grove.roots()))
        test.assertEqual([goal.joint(place) for place in nails], [grove.joint(place) for place in nails])


class Acts(unittest.TestCase):
    def test_word_by_word(self):
        met = {}
        for stand, act in some_stands(360, 160):
            word = plain_word(stand, act)
            met.setdefault(act[0], set()).add(word)
            self.assertEqual(act_word(stand, act), word, (act, stand[0].bushes(), stand[1]))
            if word is None:
                found = stand_after(stand, act)
                self.assertEqual(found, plain_after(stand, act))
                check_stand(self, found)
            else:
                raises(self, BadAct, {"word": word}, stand_after, stand, act)
        self.assertEqual(met, {
            "hang": {None, "deed", "nail"}, "stretch": {None, "deed", "nail"}, "allow": {None, "colour", "fit"},
            "forbid": {None, "colour", "fit", "stands"}, "nail": {None, "place", "goal"}, "free": {None, "place"},
            "goal": {None, "grove", "nail"}, "plant": {None, "colour", "joints", "bush"}, "fell": {None, "place"}})

    def word(self, word, stand, act):
        self.assertEqual(act_word(stand, act), word)
        self.assertEqual(plain_word(stand, act), word)
        if word is None:
            self.assertEqual(stand_after(stand, act), plain_after(stand, act))
        else:
            raises(self, BadAct, {"word": word}, stand_after, stand, act)

    def test_form(self):
        for stand in (START, AIMED, (EMPTY, (), None)):
            for value in cases(self, ODD_VALUES + ["nail", ["nail", P0], ("Nail", P0), ("nail",), ("nail", P0, P0), (),
                                                   ("goal",), ("goal", (), ()), ("fell",), ("fell", 0, 0), ("undo",),
                                                   ("plant", "x", ()), ("plant", "x", (), ("a",), ()), ("allow", "b"),
                                                   ("hang", P0), ("hang", P0, P1, P1), ("stretch", ROOT, P0, P0),
                                                   ("", 0), (["nail"], P0), (None, None), list(HANG), ("keep", "a")]):
                self.word("form", stand, value)
            for value in cases(self, ODD_VALUES):
                for many in range(2, 6):
                    self.word("form", stand, (value,) * many)

    def test_deeds(self):
        for value in cases(self, ODD_VALUES):
            self.word("deed", (GROVE, (P0,), None), ("hang", value, P1) if value != P0 else ("hang", P1, P1))
            self.word("deed", START, ("stretch", ROOT, P0, value, value))
        self.word("deed", START, ("hang", P1, Q0))
        self.word(None, START, HANG)
        self.word(None, START, ("hang", P1, P0))
        self.word("nail", (GROVE, (P0,), None), HANG)
        self.word("nail", (GROVE, (P1,), None), HANG)
        self.word(None, (GROVE, (Q0,), None), HANG)
        self.word(None, (GROVE, (P1,), None), SWAP)
        self.word("nail", (GROVE, (Q0,), None), SWAP)
        self.word(None, AIMED, SWAP)
        self.word("nail", AIMED, HANG)

    def test_fits(self):
        for value in cases(self, ODD_VALUES):
            for word in ("allow", "forbid"):
                if value != "x":
                    self.word("colour", START, (word, "a", value))
                self.word("colour", START, (word, value, "x"))
        self.word("colour", START, ("allow", "x", "b"))
        self.word("fit", START, ("allow", "a", "x"))
        self.word("fit", START, ("forbid", "b", "x"))
        self.word(None, START, ("allow", "b", "x"))
        self.word("stands", START, ("forbid", "a", "x"))
        self.word("stands", START, ("forbid", "b", "y"))
        lone = Grove(Bag(BUSH_TABLE, [("r", "a", ())]), ["x"], [("r",)])
        self.word(None, (lone, (), None), ("forbid", "a", "y"))
        self.word("stands", (lone, (), None), ("forbid", "a", "x"))

    def test_a_fit_of_the_goal_alone(self):
        bag = Bag(BUSH_TABLE, [("r", "a", ()), ("s", "a", ("y",)), ("t", "a", ("x",))])
        grove = Grove(bag, ["x"], [("s", ("t", ("r",)))])
        goal = Grove(bag, ["x"], [("t", ("s", ("r",)))])
        self.word("stands", (grove, (), None), ("forbid", "a", "y"))
        wide = Table(["a", "c"], ["x", "y"], [("a", "x"), ("a", "y"), ("c", "x"), ("c", "y")])
        bag = Bag(wide, [("r", "a", ()), ("s", "c", ())])
        grove = Grove(bag, ["x", "y"], [("r",), ("s",)])
        goal = Grove(bag, ["x", "y"], [("s",), ("r",)])
        for fit, standing, aimed in [(("a", "x"), "stands", "stands"), (("a", "y"), None, "stands"),
                                     (("c", "x"), None, "stands"), (("c", "y"), "stands", "stands")]:
            self.word(standing, (grove, (), None), ("forbid", *fit))
            self.word(standing, (grove, (), grove), ("forbid", *fit))
            self.word(aimed, (grove, (), goal), ("forbid", *fit))

    def test_nails(self):
        for value in cases(self, [one for one in ODD_VALUES if one != ROOT]):
            for stand in (START, AIMED, (EMPTY, (), None)):
                self.word("place", stand, ("nail", value))
                self.word("place", stand, ("free", value))
        for value in [("root", 1), ("p", 2), ("r", 0), ("root", True), ["p", 0]]:
            self.word("place", START, ("nail", value))
        for place in (ROOT, P0, P1, Q0):
            self.word(None, START, ("nail", place))
            self.word("place", START, ("free", place))
            self.word("place", (GROVE, (ROOT, P0, P1, Q0), None), ("nail", place))
            self.word(None, (GROVE, (ROOT, P0, P1, Q0), None), ("free", place))
        self.word("goal", AIMED, ("nail", P0))
        self.word("place", AIMED, ("nail", P1))
        self.word(None, AIMED, ("free", P1))
        self.word(None, (GROVE, (), OTHER_GROVE), ("nail", P1))
        self.word("goal", (GROVE, (), OTHER_GROVE), ("nail", ROOT))
        self.assertEqual(stand_after((GROVE, (ROOT, Q0), None), ("nail", P1)), (GROVE, (ROOT, P1, Q0), None))
        self.assertEqual(stand_after((GROVE, (ROOT, P1, Q0), None), ("free", P1)), (GROVE, (ROOT, Q0), None))

    def test_goals(self):
        for value in cases(self, [one for one in ODD_VALUES if one is not None]):
            self.word("grove", START, ("goal", value))
            self.word("grove", START, ("goal", (value,)))
        bushes = tuple(OTHER_GROVE.bushes())
        for value in [list(bushes), bushes * 2, bushes[0], (list(bushes[0]),), OTHER_GROVE]:
            self.word("grove", START, ("goal", value))
        self.word("grove", START, ("goal", (("p", ("q", ("r",)), ("t",)),)))
        self.word(None, START, ("goal", bushes))
        self.word(None, START, ("goal", tuple(GROVE.bushes())))
        self.word(None, (GROVE, (P1,), None), ("goal", bushes))
        self.word("nail", (GROVE, (P1, Q0), None), ("goal", bushes))
        self.word("nail", (GROVE, (ROOT,), GROVE), ("goal", bushes))
        self.word(None, (GROVE, (ROOT,), None), ("goal", tuple(GROVE.bushes())))
        for stand in (START, AIMED):
            self.word(None, stand, ("goal", None))
        self.assertEqual(stand_after(AIMED, ("goal", tuple(GROVE.bushes()))), (GROVE, (P1,), GROVE))
        self.assertEqual(stand_after(AIMED, ("goal", None)), (GROVE, (P1,), None))

    def test_no_roots(self):
        self.word(None, (EMPTY, (), None), ("goal", ()))
        self.word(None, (EMPTY, (), EMPTY), ("goal", None))
        self.assertEqual(stand_after((EMPTY, (), None), ("goal", ())), (EMPTY, (), EMPTY))
        self.word("grove", (EMPTY, (), None), ("goal", []))
        self.word("place", (EMPTY, (), None), ("fell", 0))
        self.word(None, (EMPTY, (), EMPTY), ("plant", "l", (("a", "k", ()),), ("a",)))

    def test_plants(self):
        good = (("u", "a", ("y",)), ("v", "b", ()))
        bush = ("u", ("v",))
        self.word(None, AIMED, ("plant", "x", good, bush))
        for value in cases(self, ODD_VALUES):
            self.word("colour" if value != "x" else None, START, ("plant", value, good, bush))
            if value != ():
                self.word("joints", START, ("plant", "x", value, bush))
            self.word("joints", START, ("plant", "x", (value,), bush))
            self.word("joints", START, ("plant", "x", good + (value,), None))
            self.word("bush", START, ("plant", "x", good, value))
            self.word("bush", START, ("plant", "x", good, ("u", value)))
            self.word("bush", START, ("plant", "x", (), value))
        for joints in (list(good), good + good[:1], good + (("p", "a", ()),), good + (("root", "a", ()),), (list(good[0]),),
                       (("u", "a", ["y"]), good[1]), (("u", "x", ()),), (("u", "a", ("b",)),)):
            self.word("joints", START, ("plant", "x", joints, bush))
        for wrong in (("u",), ("v", ("u",)), ["u", ("v",)], ("u", ["v"]), ("u", ("v",), ("v",)), ("u", ("u",)), ("p",), "u"):
            self.word("bush", START, ("plant", "x", good, wrong))
        self.word("bush", START, ("plant", "x", (("v", "b", ()),), ("v",)))
        self.word(None, START, ("plant", "y", (("v", "b", ()),), ("v",)))
        self.word("bush", START, ("plant", "x", good[:1], ("u",)))
        self.word("bush", START, ("plant", "x", (), ()))
        found = stand_after((GROVE, (Q0,), GROVE), ("plant", "y", good, bush))
        self.assertEqual(found, (Grove(Bag(BUSH_TABLE, BAG.joints() + list(good)), ("x", "y"),
                                       GROVE.bushes() + [bush]), (Q0,), None))

    def test_many(self):
        """Thirty joints and eight roots at most."""
        def lot(start, many):
            return tuple((f"n{number}", "k", ()) for number in range(start, start + many))
        for joints in (27, 28, 29, 30):
            bag = Bag(FREE, [("top", "k", ("l",) * (joints - 1))] + list(lot(0, joints - 1)))
            stand = (Grove(bag, ["l"], [("top", *[(f"n{number}",) for number in range(joints - 1)])]), (), None)
            for more in (1, 2, 3):
                act = ("plant", "l", (("new", "k", ("l",) * (more - 1)),) + lot(50, more - 1),
                       ("new", *[(f"n{50 + number}",) for number in range(more - 1)]))
                self.word("many" if joints + more > 30 else None, stand, act)
            self.word("bush", stand, ("plant", "l", lot(50, 9), ("n50",)))
        for roots in (6, 7, 8):
            stand = (Grove(Bag(FREE, lot(0, roots)), ["l"] * roots, [(f"n{number}",) for number in range(roots)]), (), None)
            self.word("many" if roots == 8 else None, stand, ("plant", "l", lot(50, 1), ("n50",)))
            self.word("bush", stand, ("plant", "l", lot(50, 1), ("n51",)))

    def test_fells(self):
        stand = (TWIN, (("root", 0), ("root", 1), ("a", 1)), TWIN)
        for value in cases(self, [one for one in ODD_VALUES if one not in (0, 1) or isinstance(one, bool)] + [2]):
            self.word("place", stand, ("fell", value))
        self.word("place", START, ("fell", 1))
        self.word(None, stand, ("fell", 0))
        self.word(None, stand, ("fell", 1))
        self.assertEqual(stand_after(stand, ("fell", 0)), (Grove(Bag(FREE, TWIN_BAG.joints()[3:]), ["l"], [("d",)]),
                                                           (("root", 0),), None))
        self.assertEqual(stand_after(stand, ("fell", 1)), (
            Grove(Bag(FREE, TWIN_BAG.joints()[:3]), ["l"], TWIN.bushes()[:1]), (("root", 0), ("a", 1)), None))
        self.assertEqual(stand_after(AIMED, ("fell", 0)), (Grove(Bag(BUSH_TABLE, []), [], []), (), None))

    def test_fell_the_middle(self):
        """Later roots' numbers become less by 1, and those of earlier ones stay."""
        bag = Bag(FREE, [(name, "k", ()) for name in "abcd"])
        grove = Grove(bag, ["l"] * 4, [(name,) for name in "dbca"])
        stand = (grove, tuple(("root", number) for number in range(4)), None)
        left, nails, goal = stand_after(stand, ("fell", 1))
        self.assertEqual((left.bag().names(), left.bushes(), nails, goal),
                         (["a", "c", "d"], [("d",), ("c",), ("a",)], (("root", 0), ("root", 1), ("root", 2)), None))

    def test_example(self):
        """S10.9."""
        stand = stand_after((DOMINO_GROVE, (), None), ("goal", tuple(DOMINO_GOAL.bushes())))
        self.assertEqual(stand, (DOMINO_GROVE, (), DOMINO_GOAL))
        self.word("stands", stand, ("forbid", "c", "q"))
        self.word(None, stand, ("allow", "b", "w"))
        after = stand_after(stand, ("allow", "b", "w"))
        table = changed(DOMINO_TABLE, ("allow", "b", "w"))
        self.assertEqual([one.bag() for one in after[::2]], [Bag(table, DOMINO_BAG.joints())] * 2)
        self.assertEqual([one.bushes() for one in after[::2]], [DOMINO_GROVE.bushes(), DOMINO_GOAL.bushes()])
        self.assertIsNone(bar_of(after[0].bag().table()))
        self.word("stands", after, ("forbid", "c", "q"))


def plain_good_acts(stand):
    """S10.6 word by word."""
    table = stand[0].bag().table()
    acts = [(word, stem, place) for word in ("allow", "forbid") for stem in table.stems() for place in table.places()]
    return [act for act in acts if plain_word(stand, act) is None and bar_of(changed(table, act)) is None]


class Good(unittest.TestCase):
    def test_word_by_word(self):
        met = set()
        for stand, _ in some_stands(361, 60):
            found = good_acts(stand)
            met.add((bar_of(stand[0].bag().table()) is None, len(found) > 2))
            self.assertEqual(found, plain_good_acts(stand))
        self.assertEqual([len({told[at] for told in met}) for at in (0, 1)], [2, 2])

    def test_example(self):
        stand = (DOMINO_GROVE, (), DOMINO_GOAL)
        self.assertEqual(good_acts(stand), plain_good_acts(stand))
        self.assertIn(("allow", "b", "w"), good_acts(stand))
        self.assertNotIn(("forbid", "c", "q"), good_acts(stand))

    def test_five_and_five(self):
        chance = random.Random(362)
        start = time.monotonic()
        for _ in range(10):
            table = some_table(chance, list("abcde"), list("vwxyz"), 0.4)
            stand = (Grove(Bag(table, []), [], []), (), None)
            self.assertEqual(good_acts(stand), plain_good_acts(stand))
            self.assertEqual([act[0] for act in good_acts(stand)], sorted(act[0] for act in good_acts(stand)))
        self.assertLess(time.monotonic() - start, 10)


class Rules(unittest.TestCase):
    def test_rules(self):
        plant = ("plant", "y", (("v", "b", ()),), ("v",))
        for stand in (START, AIMED, (GROVE, (P1, Q0), None)):
            keeps_the_rules(self, good_acts, stand)
            for act in (SWAP, ("allow", "b", "x"), ("nail", P0), ("free", P1), ("goal", None), plant, ("fell", 0),
                        ("goal", tuple(OTHER_GROVE.bushes())), ["nail", P0], [{}]):
                keeps_the_rules(self, act_word, stand, act)
                if act_word(stand, act) is None:
                    keeps_the_rules(self, stand_after, stand, act)

    def test_all_stands_of_small_groves(self):
        """Each deed and goal of a small grove with each nail."""
        groves = all_groves(BAG, ["x"])
        for grove in groves:
            for nail in (ROOT, P0, P1, Q0):
                stand = (grove, (nail,), None)
                for deed in all_deeds(grove):
                    self.assertEqual(act_word(stand, deed), plain_word(stand, deed))
                for goal in groves:
                    self.assertEqual(act_word(stand, ("goal", tuple(goal.bushes()))),
                                     None if goal.joint(nail) == grove.joint(nail) else "nail")
