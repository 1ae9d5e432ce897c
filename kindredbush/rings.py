"""The difference of two groves, and its rings."""

from kindredbush.groves import check_alike
from kindredbush.standings import Standing, rings_between


def difference(f, g):
    """The list of the pairs (place, place to which the difference leads), in the order of places."""
    check_alike(f, g)
    return [(place, g.place(name)) for place, name in f.rows()]


def rings(f, g):
    """The list of all rings of the difference, by their first places."""
    check_alike(f, g)
    return rings_between(Standing(f.rows()), Standing(g.rows()))


def right_places(f, g):
    """The list of the right places, in order."""
    return [place for place, other in difference(f, g) if place == other]
