"""Kinds with their elders, and the tables and ladders that they make."""

from kindredbush.errors import BadKinds
from kindredbush.ladders import Ladder
from kindredbush.tables import Table
from kindredbush.words import check_known, is_list, is_tuple_of, is_word


class Kinds:
    """Words, and for each of them another one as its elder, or None."""

    def __init__(self, pairs):
        path = wrong_kinds_part(pairs)
        if path is not None:
            raise BadKinds(path)
        self._pairs = tuple(pairs)
        self._elders = {kind: elder for kind, elder in pairs}

    def pairs(self):
        """The list of the pairs (kind, elder)."""
        return list(self._pairs)

    def kinds(self):
        """The list of the kinds, in order."""
        return [kind for kind, elder in self._pairs]

    def elder(self, kind):
        """The elder of a kind, or None."""
        check_known(kind, self.kinds())
        return self._elders[kind]

    def elders(self, kind):
        """The list of the elder of a kind, the elder's elder and so on."""
        check_known(kind, self.kinds())
        return elders_from(self._elders, kind)

    def is_under(self, kind, other):
        """Whether a kind is under another one, or is this one."""
        check_known(kind, self.kinds())
        check_known(other, self.kinds())
        return kind == other or other in elders_from(self._elders, kind)

    def common_kind(self, kind, other):
        """The first one of a kind and its elders that another kind is under, or None."""
        check_known(kind, self.kinds())
        check_known(other, self.kinds())
        for common in [kind] + elders_from(self._elders, kind):
            if self.is_under(other, common):
                return common
        return None

    def __eq__(self, other):
        return isinstance(other, Kinds) and self._pairs == other._pairs


def elders_from(elders, kind):
    """The list of the kinds to which one comes from a kind, until one comes to None or comes again to some kind."""
    found = []
    here = elders[kind]
    while here is not None and here not in found:
        found.append(here)
        here = elders[here]
    return found


def wrong_kinds_part(pairs):
    """The path of the first wrong part of what should be pairs of kinds and elders, or None."""
    if not is_list(pairs):
        return ()
    elders = {}
    for number, pair in enumerate(pairs):
        if not is_tuple_of(pair, 2):
            return (number,)
        if not is_word(pair[0]) or pair[0] in elders:
            return (number, 0)
        elders[pair[0]] = pair[1]
    kinds = list(elders)
    for number, pair in enumerate(pairs):
        if pair[1] is not None and pair[1] not in kinds:
            return (number, 1)
    for number, pair in enumerate(pairs):
        if pair[0] in elders_from(elders, pair[0]):
            return (number, 1)
    return None


def kinds_table(kinds):
    """The table of kinds."""
    names = kinds.kinds()
    return Table(names, names, [(stem, place) for stem in names for place in names if kinds.is_under(stem, place)])


def kinds_ladder(kinds):
    """The ladder of kinds."""
    names = kinds.kinds()
    homes = [(name, name) for name in names]
    return Ladder(names, [(kind, elder) for kind, elder in kinds.pairs() if elder is not None], homes, homes)


def kinds_of(table):
    """The kinds whose table, up to the order of its colours, is a table; or None if there are none.

    If each stem fits its own place and, beside it, just what its elder fits, the table is
    that of the kinds: a stem has one fit more than its elder, so no elders go round in a ring.
    """
    if sorted(table.stems()) != sorted(table.places()):
        return None
    pairs = []
    for stem in table.stems():
        further = [place for place in table.fits_of(stem) if place != stem]
        if not table.is_fit(stem, stem):
            return None
        elder = None
        if further:
            elder = elder_in(table, further)
            if elder is None:
                return None
        pairs.append((stem, elder))
    return Kinds(pairs)


def elder_in(table, further):
    """The first one of some place colours that, as a stem, fits just these; or None."""
    for place in further:
        if table.fits_of(place) == further:
            return place
    return None
