"""How many coins lead from a grove to another one, and ways of so many."""

from kindredbush.bags import places_of
from kindredbush.bars import bar_of
from kindredbush.deeds import check_deed, led
from kindredbush.errors import BadTable
from kindredbush.groves import check_alike
from kindredbush.ladders import trimmed
from kindredbush.matches import flat_way, matched
from kindredbush.peelings import ladder_of
from kindredbush.rings import rings
from kindredbush.scripts import first_bad, price, walked
from kindredbush.seen import seen_script
from kindredbush.standings import moves_of
from kindredbush.words import is_list


def due(f, g):
    """The number of places less the number of rings."""
    return len(f.rows()) - len(rings(f, g))


def coins(f, g):
    """The coins from a grove to another one."""
    check_alike(f, g)
    check_good(f.bag().table())
    return due(f, g)


def check_good(table):
    """Raise BadTable with a bar if a table is bad."""
    bar = bar_of(table)
    if bar is not None:
        raise BadTable(bar[0], bar[1])


def way(f, g):
    """A fewest way from a grove to another one."""
    check_alike(f, g)
    bag, roots = f.bag(), f.roots()
    # It is ladder_of that raises BadTable, with the bar of a bad table.
    ladder = trimmed(ladder_of(bag.table()))
    one, other = matched(ladder, f, g)
    return seen_script(ladder, bag, roots, one, flat_way(ladder, bag, roots, one, other))


def judge_way(f, g, script):
    """None if a value, which may be anything, is a way that pays due, and otherwise its first fault."""
    check_alike(f, g)
    if not is_list(script):
        return ("form",)
    bad = first_bad(f, script)
    if bad is not None:
        return ("deed", bad)
    if walked(f, script) != g:
        return ("end",)
    above = price(script) - due(f, g)
    if above > 0:
        return ("coins", above)
    return None


def touched(f, deed):
    """The list of the places at which another joint stands behind a deed, in the order of places."""
    check_deed(f, deed)
    moved = [place for place, source in moves_of(deed)]
    return [place for place in places_of(f.bag(), f.roots()) if place in moved]


def change(f, g, deed):
    """How many rings more there are behind a deed."""
    check_alike(f, g)
    check_deed(f, deed)
    return len(rings(led(f, deed), g)) - len(rings(f, g))
