"""Flat groves and flat deeds, and the groves and deeds as which they are seen."""

from kindredbush.assemblies import grove_of
from kindredbush.errors import BadDeed
from kindredbush.flats import Ground, check_flat_place, flat_of, rows_of
from kindredbush.standings import Standing, is_form, is_shape


def seen_grove(ladder, bag, roots, flat):
    """The grove as which a flat grove is seen."""
    standing = Standing(rows_of(Ground(ladder, bag, roots), flat))
    joints = {top_of(standing, place): holder for place, holder in standing.rows() if bag.has_name(holder)}
    return grove_of(bag, roots, joints)


def top(ladder, bag, roots, flat, place):
    """The top of a flat place."""
    ground = Ground(ladder, bag, roots)
    check_flat_place(ground, place)
    return top_of(Standing(rows_of(ground, flat)), place)


def top_of(standing, place):
    """The top of a flat place in a flat grove with this standing."""
    while isinstance(place[0], tuple):
        place = standing.spot(place[0])
    return place


def is_flat_deed(ladder, bag, roots, flat, value):
    """Whether a value, which may be anything, is a flat deed that can be done."""
    ground = Ground(ladder, bag, roots)
    return can_be_done_flat(ground, Standing(rows_of(ground, flat)), value)


def can_be_done_flat(ground, standing, value):
    """Whether a value, which may be anything, is a flat deed that can be done at this standing."""
    if not is_form(value) or not all([ground.is_place(place) for place in value[1:]]):
        return False
    knots = [ground.knot(place) for place in value[1:]]
    half = len(knots) // 2
    # Of a hang these are one knot and one, of the other deed those of two stretches.
    return knots[:half] == knots[half:] and is_shape(standing, value)


def done_flat(ladder, bag, roots, flat, deed):
    """The flat grove to which a flat deed leads."""
    ground = Ground(ladder, bag, roots)
    standing = Standing(rows_of(ground, flat))
    if not can_be_done_flat(ground, standing, deed):
        raise BadDeed(0)
    return flat_of(ground, standing.after(deed).holders())


def seen_deed(ladder, bag, roots, flat, deed):
    """The deed as which a flat deed is seen, or None if it is seen as nothing."""
    ground = Ground(ladder, bag, roots)
    standing = Standing(rows_of(ground, flat))
    if not can_be_done_flat(ground, standing, deed):
        raise BadDeed(0)
    return seen_as(standing, deed)


def seen_as(standing, deed):
    """The deed as which a flat deed that can be done at this standing is seen, or None."""
    tops = [top_of(standing, place) for place in deed[1:]]
    if deed[0] == "hang":
        return ("hang", tops[0], tops[1])
    s, t, u, v = tops
    if s != t and u != v:
        return ("stretch", s, t, u, v)
    if s != t:
        return seen_beside(standing, u, s, t)
    if u != v:
        return seen_beside(standing, s, u, v)
    return None


def seen_beside(standing, s, u, v):
    """The deed as which one is seen of which one stretch is seen as the empty one at s, the other from u to v."""
    if standing.is_above(s, u):
        return ("stretch", s, u, u, v)
    if standing.is_above(u, s):
        return ("stretch", u, v, v, s)
    return ("stretch", s, s, u, v)


def seen_script(ladder, bag, roots, flat, script):
    """The list of the deeds as which flat deeds that are done one after another are seen."""
    ground = Ground(ladder, bag, roots)
    standing = Standing(rows_of(ground, flat))
    found = []
    for number, deed in enumerate(script):
        if not can_be_done_flat(ground, standing, deed):
            raise BadDeed(number)
        seen = seen_as(standing, deed)
        if seen is not None:
            found.append(seen)
        standing = standing.after(deed)
    return found
