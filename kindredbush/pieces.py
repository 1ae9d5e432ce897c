"""Stretches of groves, and which deeds can be done."""

from kindredbush.bags import fits_there, is_place
from kindredbush.standings import Standing, is_form, is_shape, moves_of


def is_stretch(grove, s, t):
    """Whether two values, which may be anything, are places that make a stretch."""
    return are_places(grove, (s, t)) and (s == t or grove.is_above(s, t))


def are_places(grove, values):
    """Whether all of some values, which may be anything, are places of a grove."""
    return all([is_place(grove.bag(), grove.roots(), value) for value in values])


def stretch_joints(grove, s, t):
    """The list of the names of the joints of a stretch, in the order of a walk."""
    lower = grove.names(t)
    return [name for name in grove.names(s) if name not in lower]


def is_deed(grove, value):
    """Whether a value, which may be anything, is a deed that can be done at a grove."""
    if not is_form(value) or not are_places(grove, value[1:]):
        return False
    return can_be_done(grove, Standing(grove.rows()), value)


def can_be_done(grove, standing, deed):
    """Whether what has the form of a deed, with places, can be done at a grove with this standing."""
    return is_shape(standing, deed) and all(
        [fits_there(grove.bag(), grove.roots(), standing.holder(source), place) for place, source in moves_of(deed)])
