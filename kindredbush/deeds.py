"""Deeds: what they lead to, how they are taken back, and all that can be done."""

from kindredbush.assemblies import grove_of
from kindredbush.bags import places_of
from kindredbush.errors import BadDeed
from kindredbush.pieces import can_be_done, is_deed
from kindredbush.standings import Standing


def done(grove, deed):
    """The grove to which a deed leads."""
    check_deed(grove, deed)
    return led(grove, deed)


def check_deed(grove, deed):
    """Raise BadDeed if a value, which may be anything, is no deed that can be done at a grove."""
    if not is_deed(grove, deed):
        raise BadDeed(0)


def led(grove, deed):
    """The grove to which a deed that can be done leads."""
    return grove_of(grove.bag(), grove.roots(), Standing(grove.rows()).after(deed).holders())


def deed_back(grove, deed):
    """The canonical deed by which a deed is taken back."""
    check_deed(grove, deed)
    return canonical(grove.bag(), grove.roots(), back_of(deed))


def back_of(deed):
    """The deed, canonical or not, that takes back a deed."""
    if deed[0] == "hang":
        return deed
    word, s, t, u, v = deed
    if s == t:
        return (word, s, v, u, u)
    if u == v:
        return (word, u, t, s, s)
    if t == u:
        return (word, s, v, v, t)
    if v == s:
        return (word, u, t, t, v)
    return (word, s, v, u, t)


def canonical(bag, roots, deed):
    """The canonical one of the two deeds that do the same as a deed."""
    places = places_of(bag, roots)
    half = len(deed) // 2
    # The halves are the two places of a hang, and the two stretches of the other deed.
    first, second = deed[1:1 + half], deed[1 + half:]
    if places.index(first[0]) < places.index(second[0]):
        return deed
    return (deed[0],) + second + first


def all_deeds(grove):
    """The list of all canonical deeds that can be done at a grove, in their order."""
    standing = Standing(grove.rows())
    places = places_of(grove.bag(), grove.roots())
    tried = [("hang", s, t) for number, s in enumerate(places) for t in places[number + 1:]]
    tried.extend(stretch_pairs(standing, places))
    return [deed for deed in tried if can_be_done(grove, standing, deed)]


def stretch_pairs(standing, places):
    """All tuples of two stretches, in the canonical form and in the order of deeds."""
    ends = {s: [t for t in places if standing.is_stretch(s, t)] for s in places}
    return [("stretch", s, t, u, v) for number, s in enumerate(places) for t in ends[s]
            for u in places[number + 1:] for v in ends[u]]
