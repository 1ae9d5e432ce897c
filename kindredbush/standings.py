"""What stands where in a grove or in a flat grove, and what deeds move there."""

from kindredbush.words import is_tuple_of


class Standing:
    """Holders (joints or adapters) at places; a place is a pair of its owner, a holder or "root", and a number."""

    def __init__(self, rows):
        self._rows = tuple(rows)
        self._holders = {place: holder for place, holder in rows}
        self._spots = {holder: place for place, holder in rows}

    def rows(self):
        """The list of the pairs (place, holder), in the order in which they were told."""
        return list(self._rows)

    def holders(self):
        """A dict of the holders by their places."""
        return {place: holder for place, holder in self._rows}

    def holder(self, place):
        """What stands at a place."""
        return self._holders[place]

    def spot(self, holder):
        """The place at which a holder stands."""
        return self._spots[holder]

    def is_above(self, one, other):
        """Whether a place is above another one."""
        owner = other[0]
        while owner != "root":
            spot = self._spots[owner]
            if spot == one:
                return True
            owner = spot[0]
        return False

    def is_apart(self, one, other):
        """Whether two places are apart."""
        return one != other and not self.is_above(one, other) and not self.is_above(other, one)

    def is_stretch(self, one, other):
        """Whether two places make a stretch, from the one to the other."""
        return one == other or self.is_above(one, other)

    def after(self, deed):
        """The standing behind a deed."""
        sources = {place: source for place, source in moves_of(deed)}
        return Standing([(place, self._holders[sources.get(place, place)]) for place, holder in self._rows])


def is_form(value):
    """Whether a value, which may be anything, is a tuple with the word and the size of a deed."""
    if is_tuple_of(value, 3):
        return value[0] == "hang"
    return is_tuple_of(value, 5) and value[0] == "stretch"


def is_shape(standing, deed):
    """Whether the places of what has the form of a deed lie as those of a deed do, whatever fits them."""
    if deed[0] == "hang":
        return standing.is_apart(deed[1], deed[2])
    word, s, t, u, v = deed
    if not standing.is_stretch(s, t) or not standing.is_stretch(u, v):
        return False
    if s == t or u == v:
        return (s != t or u != v) and standing.is_apart(s, u)
    # Two stretches with joints have none in common if they lie apart or one begins at the end of the other or below.
    return standing.is_apart(s, u) or standing.is_stretch(t, u) or standing.is_stretch(v, s)


def moves_of(deed):
    """The pairs of a place that holds something else behind a deed, and the place that held it before."""
    if deed[0] == "hang":
        return [(deed[1], deed[2]), (deed[2], deed[1])]
    word, s, t, u, v = deed
    if s == t:
        return [(s, u), (v, s), (u, v)]
    if u == v or v == s:
        return [(u, s), (t, u), (s, t)]
    if t == u:
        return [(s, t), (v, s), (t, v)]
    return [(s, u), (u, s), (t, v), (v, t)]


def coins_of(deed):
    """How many coins a deed costs."""
    if deed[0] == "hang":
        return 1
    return 2


def rings_between(one, other):
    """The rings of the difference of two standings with the same places and holders, by their first places."""
    found = []
    met = {}
    for place, holder in one.rows():
        if place not in met:
            ring = ring_from(one, other, place)
            for spot in ring:
                met[spot] = True
            found.append(ring)
    return found


def ring_from(one, other, place):
    """The ring of the difference of two standings that begins with a place."""
    ring = [place]
    here = other.spot(one.holder(place))
    while here != place:
        ring.append(here)
        here = other.spot(one.holder(here))
    return tuple(ring)
