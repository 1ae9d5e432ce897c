"""Changes of tables, and the groves that live in the tables behind them."""

from kindredbush.bags import Bag, colour_of, wrong_bag_part
from kindredbush.bars import bar_of
from kindredbush.errors import BadAct
from kindredbush.groves import Grove, wrong_grove_part
from kindredbush.tables import with_fit, without_fit
from kindredbush.words import is_tuple_of


def is_change(table, value):
    """Whether a value, which may be anything, is a change of a table."""
    if not is_tuple_of(value, 3) or value[0] not in ("allow", "forbid"):
        return False
    word, stem, place = value
    if stem not in table.stems() or place not in table.places():
        return False
    return table.is_fit(stem, place) == (word == "forbid")


def changed(table, change):
    """The table to which a change leads."""
    if not is_change(table, change):
        raise BadAct("change")
    return led_by(table, change)


def led_by(table, change):
    """The table to which a change that can be done leads."""
    word, stem, place = change
    if word == "allow":
        return with_fit(table, stem, place)
    return without_fit(table, stem, place)


def change_of(table, stem, place):
    """The change that makes a stem colour and a place colour fit, or no longer fit."""
    if table.is_fit(stem, place):
        return ("forbid", stem, place)
    return ("allow", stem, place)


def all_changes(table):
    """The list of all changes, by their stems and then by their places."""
    return [change_of(table, stem, place) for stem in table.stems() for place in table.places()]


def good_changes(table):
    """The list of all changes that lead to a good table, in their order."""
    return [change for change in all_changes(table) if bar_of(led_by(table, change)) is None]


def fits_used(grove):
    """The list of the fits that a grove uses, each once, in the order of its table."""
    bag, roots = grove.bag(), grove.roots()
    used = [(bag.stem(name), colour_of(bag, roots, place)) for place, name in grove.rows()]
    return [fit for fit in bag.table().fits() if fit in used]


def lives_in(grove, table):
    """Whether a grove lives in a table."""
    joints = grove.bag().joints()
    if wrong_bag_part(table, joints) is not None:
        return False
    return wrong_grove_part(Bag(table, joints), grove.roots(), grove.bushes()) is None


def grove_over(grove, table):
    """The grove over a table with the same joints, roots and bushes, or None if it does not live there."""
    if not lives_in(grove, table):
        return None
    return Grove(Bag(table, grove.bag().joints()), grove.roots(), grove.bushes())
