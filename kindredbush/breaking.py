"""Breaks: what shows that a table is bad, a bar and two groves between which no way pays due."""

from kindredbush.bags import Bag
from kindredbush.bars import bar_of, judge_bar
from kindredbush.groves import Grove
from kindredbush.words import is_tuple_of

DOMINO_NAMES = ("c1", "a1", "b1", "a2", "b2")


def breaking(table):
    """A break of a table, or None if the table is good."""
    bar = bar_of(table)
    if bar is None:
        return None
    return break_by(table, bar, list(names_for(bar)))


def names_for(bar):
    """The names of the joints of a break with a bar."""
    if bar[0] == "domino":
        return DOMINO_NAMES
    return tuple([f"j{number + 1}" for number in range(len(bar[1]) // 2)])


def break_by(table, bar, names):
    """The break of a table that is made of a bar, with these names of the joints."""
    if bar[0] == "domino":
        joints, roots, one, other = domino_parts(bar[1], names)
    else:
        joints, roots, one, other = ring_parts(bar[1], names)
    bag = Bag(table, joints)
    return (bar, Grove(bag, roots, one), Grove(bag, roots, other))


def ring_parts(ring, names):
    """The joints, the roots and the bushes of the two groves of a ring."""
    joints = [(name, stem, ()) for name, stem in zip(names, ring[0::2])]
    bushes = [(name,) for name in names]
    return (joints, ring[1::2], bushes, bushes[1:] + bushes[:1])


def domino_parts(domino, names):
    """The joints, the root and the bushes of the two groves of a domino."""
    a, p, b, q, c, w = domino
    c1, a1, b1, a2, b2 = names
    joints = [(c1, c, (p,)), (a1, a, (w, p)), (b1, b, (q,)), (a2, a, ()), (b2, b, ())]
    return (joints, (q,), [(c1, (a1, (a2,), (b1, (b2,))))], [(b1, (a1, (c1, (b2,)), (a2,)))])


def judge_breaking(table, value):
    """Whether a value, which may be anything, is a break of a table."""
    if not is_tuple_of(value, 3) or not judge_bar(table, value[0]) or not isinstance(value[1], Grove):
        return False
    names = value[1].bag().names()
    return len(names) == len(names_for(value[0])) and value == break_by(table, value[0], names)
