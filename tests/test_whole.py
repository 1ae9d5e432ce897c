"""What the document promises across its parts."""

import random
import unittest

from kindredbush.assemblies import assembly_of
from kindredbush.bars import bar_of
from kindredbush.between import all_between, first_deeds
from kindredbush.breaking import breaking
from kindredbush.building import built, can_build
from kindredbush.changes import changed, fits_used, good_changes, lives_in
from kindredbush.coins import coins, due, way
from kindredbush.console import Console
from kindredbush.counting import count_assemblies, count_groves
from kindredbush.deeds import done
from kindredbush.errors import BadAct
from kindredbush.goals import dues_after, wasted
from kindredbush.groves import Grove
from kindredbush.grovetexts import bag_text, grove_text, read_bag, read_grove
from kindredbush.house import House
from kindredbush.kinds import Kinds, kinds_ladder, kinds_table
from kindredbush.nearby import how_far, nearest_tables
from kindredbush.numbering import drawn_grove, groves_from, number_of
from kindredbush.peelings import ladder_of
from kindredbush.plainwalks import fewest_by_walks, reached
from kindredbush.scripts import price, read_script, script_back, script_text, walked
from kindredbush.texts import read_table, table_text
from tests.support import RING_TABLE, keeps_the_rules, raises, some_bag, some_table
from tests.test_acts import DOMINO_GOAL, DOMINO_GROVE, some_stands
from tests.test_assemblies import all_assemblies
from tests.test_coins import good
from tests.test_flows import some_cases
from tests.test_groves import all_groves
from tests.test_kinds import some_pairs
from tests.test_rings import pairs


def counted(bag, roots):
    """All groves, by their numbers."""
    found = []
    while len(found) % 50 == 0 and len(found) < count_groves(bag, roots):
        found += groves_from(bag, roots, number=len(found), many=50)
    return found


class Ways(unittest.TestCase):
    def test_deed_by_deed(self):
        """A way between two groves is done to its end, also in a house with a goal and nails, also line by line."""
        for f, g in pairs(400):
            if not good(f):
                continue
            script = way(f, g)
            self.assertEqual((walked(f, script), price(script)), (g, coins(f, g)))
            self.assertEqual(walked(g, script_back(f, script)), f)
            house = House(f)
            nails = [place for place, name in f.rows() if g.joint(place) == name]
            house.tried([("nail", place) for place in nails] + [("goal", tuple(g.bushes()))])
            for left, deed in zip(dues_after(f, g, script), script):
                self.assertEqual((house.left(), house.waste()), (left, 0))
                house.do(deed)
            self.assertEqual((house.grove(), house.waste(), house.nails(), house.paid()), (g, 0, nails, due(f, g)))
            house.tried([] if f == g else script_back(f, script)[:1])
            console = Console(house)
            for line in console.say("way").split("; "):
                console.say(line)
            self.assertEqual((house.grove(), console.say("left"), console.say("way")), (g, "0", ""))

    def test_each_step_begins_a_way(self):
        for f, g in pairs(401):
            if good(f) and due(f, g) <= 4:
                self.assertEqual([grove for grove in all_between(f, g) if due(grove, g) + 1 == due(f, g)],
                                 [grove for grove in all_between(f, g)
                                  if any(price([deed]) == 1 and done(f, deed) == grove for deed in first_deeds(f, g))])

    def test_mended_tables(self):
        """A break of a bad table has a way that pays due behind a change that mends it."""
        for table in (RING_TABLE, DOMINO_GROVE.bag().table()):
            bar, f, g = breaking(table)
            for change in good_changes(table):
                after = changed(table, change)
                if lives_in(f, after) and lives_in(g, after):
                    house = House(f)
                    house.tried([("goal", tuple(g.bushes())), change])
                    self.assertEqual((house.left(), price(house.way())), (due(f, g), due(f, g)))
                else:
                    self.assertIn(change[1:], fits_used(f) + fits_used(g))
        self.assertEqual(how_far(RING_TABLE), 1)

    def test_a_house_of_the_domino(self):
        house = House(DOMINO_GROVE)
        house.do(("goal", tuple(DOMINO_GOAL.bushes())))
        for (change,), table in nearest_tables(house.kin()):
            if change[0] == "allow" or change[1:] not in fits_used(DOMINO_GROVE) + fits_used(DOMINO_GOAL):
                other = house.twin()
                other.do(change)
                other.tried(other.way())
                self.assertEqual((other.grove(), other.kin(), other.waste()), (other.goal(), table, 0))
            else:
                raises(self, BadAct, {"word": "stands"}, house.do, change)


class Texts(unittest.TestCase):
    def test_read_back(self):
        met = 0
        for stand, _ in some_stands(402, 50):
            grove = stand[0]
            bag, table = grove.bag(), grove.bag().table()
            met += len(grove.rows()) > 3
            self.assertEqual(read_table(table_text(table)), table)
            self.assertEqual(read_bag(table, bag_text(bag)), bag)
            self.assertEqual(read_grove(bag, grove_text(grove)), grove)
            console = Console(House(grove))
            bushes = "".join(f"{bush}; " for bush in console.say("show").split("; ") if bush)
            self.assertEqual(console.say("goal { " + bushes + "}"), "1")
            self.assertEqual(console.house().goal(), grove)
        self.assertGreater(met, 50)

    def test_scripts(self):
        for f, g in pairs(403):
            if good(f):
                self.assertEqual(read_script(script_text(way(f, g))), way(f, g))


class Counts(unittest.TestCase):
    def test_lists(self):
        """Counts agree with lists, and over good tables scripts lead to all groves."""
        met = 0
        for joints in range(1, 6):
            for _, bag, roots in some_cases(joints + 404, 24, joints):
                groves = all_groves(bag, roots)
                self.assertEqual(count_groves(bag, list(roots)), len(groves))
                self.assertEqual(count_assemblies(bag, list(roots)), len(list(all_assemblies(bag, roots))))
                self.assertEqual(can_build(ladder_of(bag.table()), bag, roots), len(groves) > 0)
                found = counted(bag, list(roots))
                self.assertEqual(sorted(map(grove_text, found)), sorted(map(grove_text, groves)))
                if groves:
                    self.assertEqual(sorted(map(grove_text, reached(groves[0]))), sorted(map(grove_text, groves)))
                    self.assertIn(built(ladder_of(bag.table()), bag, roots), groves)
                    self.assertEqual(fewest_by_walks(groves[0], groves[-1], 5), coins(groves[0], groves[-1]))
                    self.assertEqual(assembly_of(groves[-1]).grove(), groves[-1])
                    met += len(groves) > 1
        self.assertGreater(met, 20)

    def test_drawn_groves(self):
        """Groves of fourteen joints that are drawn by their numbers lead to one another."""
        chance = random.Random(405)
        kinds = Kinds(some_pairs(chance, 7))
        ladder = kinds_ladder(kinds)
        met = 0
        while met < 3:
            bag, roots = some_bag(chance, ladder, 14, 2)
            if count_groves(bag, list(roots)) > 1:
                met += 1
                f, g = [drawn_grove(bag, list(roots), chance.randrange(10 ** 60)) for _ in range(2)]
                self.assertEqual(walked(f, way(f, g)), g)
                self.assertEqual(wasted(f, g, way(f, g)), 0)
                self.assertEqual(grove_text(groves_from(bag, list(roots), number=number_of(g), many=1)[0]), grove_text(g))
        self.assertIsNone(bar_of(kinds_table(kinds)))


class Rules(unittest.TestCase):
    def test_objects_that_are_made_anew(self):
        chance = random.Random(406)
        for _ in range(6):
            table = some_table(chance, list("abcd"), list("wxyz"), 0.6)
            keeps_the_rules(self, bar_of, table)
            keeps_the_rules(self, breaking, table)
            found = breaking(read_table(table_text(table)))
            self.assertEqual(found, breaking(table))
            if found is not None:
                bag = read_bag(table, bag_text(found[1].bag()))
                self.assertEqual(Grove(bag, list(found[1].roots()), found[1].bushes()), found[1])
