"""Acts: what can be done at a stand, which is a grove, its nailed places and its goal or None."""

from kindredbush.bags import Bag, is_place, places_of, wrong_bag_part
from kindredbush.bars import bar_of
from kindredbush.changes import all_changes, fits_used, grove_over, led_by
from kindredbush.deeds import led
from kindredbush.errors import BadAct
from kindredbush.goals import barred_nails
from kindredbush.groves import Grove, wrong_grove_part
from kindredbush.pieces import is_deed
from kindredbush.standings import is_form, moves_of
from kindredbush.words import is_number, is_tuple_of

# Beside those of deeds, the words with which acts begin, and how many members the acts have.
FORMS = (("allow", 3), ("forbid", 3), ("nail", 2), ("free", 2), ("goal", 2), ("plant", 4), ("fell", 2))
MOST_JOINTS = 30
MOST_ROOTS = 8


def act_word(stand, act):
    """The word that tells why a value, which may be anything, is no act at a stand, or None if it is one."""
    if is_form(act):
        return deed_word(stand, act)
    if not has_form(act):
        return "form"
    if act[0] in ("allow", "forbid"):
        return fit_word(stand, act)
    if act[0] in ("nail", "free"):
        return nail_word(stand, act)
    if act[0] == "goal":
        return goal_word(stand, act[1])
    if act[0] == "plant":
        return plant_word(stand[0], act)
    if not is_number(act[1]) or act[1] >= len(stand[0].roots()):
        return "place"
    return None


def has_form(value):
    """Whether a value, which may be anything, is a tuple with the word and the size of an act that is no deed."""
    return any([is_tuple_of(value, size) and value[0] == word for word, size in FORMS])


def deed_word(stand, deed):
    """The word that tells why what has the form of a deed is no act, or None."""
    grove, nails, goal = stand
    if not is_deed(grove, deed):
        return "deed"
    if any([place in nails for place, source in moves_of(deed)]):
        return "nail"
    return None


def fit_word(stand, act):
    """The word that tells why a fit cannot be allowed or forbidden, or None."""
    grove, nails, goal = stand
    table = grove.bag().table()
    word, stem, place = act
    if stem not in table.stems() or place not in table.places():
        return "colour"
    if table.is_fit(stem, place) != (word == "forbid"):
        return "fit"
    if word == "forbid" and any([(stem, place) in fits_used(one) for one in (grove, goal) if one is not None]):
        return "stands"
    return None


def nail_word(stand, act):
    """The word that tells why a place cannot be nailed or freed, or None."""
    grove, nails, goal = stand
    word, place = act
    if not is_place(grove.bag(), grove.roots(), place) or (place in nails) != (word == "free"):
        return "place"
    if word == "nail" and goal is not None and goal.joint(place) != grove.joint(place):
        return "goal"
    return None


def goal_word(stand, bushes):
    """The word that tells why some bushes cannot be the goal, or None."""
    grove, nails, goal = stand
    if bushes is None:
        return None
    if not isinstance(bushes, tuple) or wrong_grove_part(grove.bag(), grove.roots(), bushes) is not None:
        return "grove"
    if barred_nails(grove, goal_of(grove, bushes), nails):
        return "nail"
    return None


def goal_of(grove, bushes):
    """The grove of the same bag and roots as a grove with these bushes, or None."""
    if bushes is None:
        return None
    return Grove(grove.bag(), grove.roots(), bushes)


def plant_word(grove, act):
    """The word that tells why a bush cannot be planted, or None."""
    bag = grove.bag()
    word, colour, joints, bush = act
    if colour not in bag.table().places():
        return "colour"
    if not isinstance(joints, tuple) or wrong_bag_part(bag.table(), bag.joints() + list(joints)) is not None:
        return "joints"
    if wrong_grove_part(Bag(bag.table(), joints), (colour,), (bush,)) is not None:
        return "bush"
    if len(bag.joints()) + len(joints) > MOST_JOINTS or len(grove.roots()) + 1 > MOST_ROOTS:
        return "many"
    return None


def stand_after(stand, act):
    """The stand to which an act leads."""
    why = act_word(stand, act)
    if why is not None:
        raise BadAct(why)
    grove, nails, goal = stand
    if is_form(act):
        return (led(grove, act), nails, goal)
    if act[0] in ("allow", "forbid"):
        return stand_over(stand, led_by(grove.bag().table(), act))
    if act[0] == "nail":
        return (grove, in_order(grove, nails + (act[1],)), goal)
    if act[0] == "free":
        return (grove, tuple([place for place in nails if place != act[1]]), goal)
    if act[0] == "goal":
        return (grove, nails, goal_of(grove, act[1]))
    if act[0] == "plant":
        return planted(grove, nails, act)
    return felled(grove, nails, act[1])


def in_order(grove, nails):
    """The tuple of some places of a grove, in the order of places."""
    return tuple([place for place in places_of(grove.bag(), grove.roots()) if place in nails])


def stand_over(stand, table):
    """The stand over another table, in which its grove and its goal live."""
    grove, nails, goal = stand
    if goal is not None:
        goal = grove_over(goal, table)
    return (grove_over(grove, table), nails, goal)


def planted(grove, nails, act):
    """The stand behind an act that plants a bush."""
    bag = grove.bag()
    word, colour, joints, bush = act
    fuller = Bag(bag.table(), bag.joints() + list(joints))
    return (Grove(fuller, grove.roots() + (colour,), grove.bushes() + [bush]), nails, None)


def felled(grove, nails, number):
    """The stand behind an act that fells the root with a number."""
    bag, roots, bushes = grove.bag(), grove.roots(), grove.bushes()
    gone = grove.names(("root", number))
    emptier = Bag(bag.table(), [joint for joint in bag.joints() if joint[0] not in gone])
    left = [place for place in nails if place[0] not in gone and place != ("root", number)]
    return (Grove(emptier, roots[:number] + roots[number + 1:], bushes[:number] + bushes[number + 1:]),
            tuple([renumbered(place, number) for place in left]), None)


def renumbered(place, number):
    """A place as it is called when the root with a number, which is another one, is gone."""
    if place[0] == "root" and place[1] > number:
        return ("root", place[1] - 1)
    return place


def good_acts(stand):
    """The list of the good acts: first those that allow, then those that forbid."""
    table = stand[0].bag().table()
    good = [change for change in all_changes(table)
            if act_word(stand, change) is None and bar_of(led_by(table, change)) is None]
    return [change for change in good if change[0] == "allow"] + [change for change in good if change[0] == "forbid"]
