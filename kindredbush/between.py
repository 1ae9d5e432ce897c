"""What lies on the fewest ways from one grove to another."""

from kindredbush.coins import check_good, due
from kindredbush.deeds import all_deeds, check_deed, led
from kindredbush.groves import check_alike
from kindredbush.plainwalks import key_of
from kindredbush.standings import Standing, coins_of, rings_between


def begins(f, g, deed):
    """Whether a deed begins a fewest way to a grove."""
    check_pair(f, g)
    check_deed(f, deed)
    return begins_at(Standing(f.rows()), Standing(g.rows()), deed)


def check_pair(f, g):
    """Raise UnlikeGroves or BadTable if two groves are none of one bag over a good table."""
    check_alike(f, g)
    check_good(f.bag().table())


def begins_at(here, goal, deed):
    """Whether a deed that can be done makes as many rings more, towards a goal, as it costs coins."""
    return len(rings_between(here.after(deed), goal)) - len(rings_between(here, goal)) == coins_of(deed)


def first_deeds(f, g):
    """The list of the canonical deeds that begin a fewest way to a grove, in their order."""
    check_pair(f, g)
    here = Standing(f.rows())
    goal = Standing(g.rows())
    return [deed for deed in all_deeds(f) if begins_at(here, goal, deed)]


def is_between(f, h, g):
    """Whether the grove h is between the groves f and g."""
    check_alike(f, h)
    check_pair(f, g)
    return due(f, h) + due(h, g) == due(f, g)


def all_between(f, g):
    """The list of all groves between two groves, by due from the first one and then by their joints."""
    check_pair(f, g)
    found = {}
    waiting = [f]
    while waiting:
        grove = waiting.pop()
        key = (due(f, grove), key_of(f.bag(), Standing(grove.rows())))
        if key not in found:
            found[key] = grove
            waiting.extend([led(grove, deed) for deed in first_deeds(grove, g)])
    return [found[key] for key in sorted(list(found))]


def nearest_grove(f, groves):
    """The number of the first one of some groves to which due is least."""
    for grove in groves:
        check_alike(f, grove)
    dues = [due(f, grove) for grove in groves]
    return dues.index(min(dues))
