"""Groves: bushes in which each joint of a bag stands once."""

from kindredbush.bags import check_place, places_of, wrong_roots_part
from kindredbush.errors import BadGrove, UnlikeGroves
from kindredbush.words import check_known, is_list


class Grove:
    """A bush for each root, in which the joints of a bag stand at places that they fit."""

    def __init__(self, bag, roots, bushes):
        path = wrong_grove_part(bag, roots, bushes)
        if path is not None:
            raise BadGrove(path)
        self._bag = bag
        self._roots = tuple(roots)
        self._bushes = tuple(bushes)
        spots = []
        for number, bush in enumerate(bushes):
            spots.extend(walked(("root", number), bush))
        self._walk = tuple([part[0] for place, part in spots])
        self._bush_at = {place: part for place, part in spots}
        self._place_of = {part[0]: place for place, part in spots}

    def bag(self):
        """The bag."""
        return self._bag

    def roots(self):
        """The tuple of the colours of the roots."""
        return self._roots

    def bushes(self):
        """The list of the bushes."""
        return list(self._bushes)

    def rows(self):
        """The list of the pairs (place, name of the joint there), in the order of places."""
        return [(place, self._bush_at[place][0]) for place in places_of(self._bag, self._roots)]

    def joint(self, place):
        """The name of the joint that stands at a place."""
        check_place(self._bag, self._roots, place)
        return self._bush_at[place][0]

    def names(self, place):
        """The list of the names of the joints that hang at a place, in the order of a walk."""
        check_place(self._bag, self._roots, place)
        return [part[0] for spot, part in walked(place, self._bush_at[place])]

    def above(self, place):
        """The list of the places above a place, from the root's place downwards."""
        check_place(self._bag, self._roots, place)
        found = []
        owner = place[0]
        while owner != "root":
            spot = self._place_of[owner]
            found.append(spot)
            owner = spot[0]
        return found[::-1]

    def is_above(self, one, other):
        """Whether a place is above another one."""
        check_place(self._bag, self._roots, one)
        return one in self.above(other)

    def is_apart(self, one, other):
        """Whether two places are apart."""
        return not self.is_above(one, other) and not self.is_above(other, one) and one != other

    def place(self, name):
        """The place at which the joint with a name stands."""
        check_known(name, self._walk)
        return self._place_of[name]

    def walk(self):
        """The list of all names in the order of a walk."""
        return list(self._walk)

    def __eq__(self, other):
        return (isinstance(other, Grove) and self._bag == other._bag
                and self._roots == other._roots and self._bushes == other._bushes)


def walked(place, bush):
    """The pairs (place, bush) of all bushes within the bush at a place, in the order of a walk."""
    found = []
    waiting = [(place, bush)]
    while waiting:
        spot = waiting.pop()
        found.append(spot)
        name = spot[1][0]
        lower = [((name, number), part) for number, part in enumerate(spot[1][1:])]
        waiting.extend(lower[::-1])
    return found


def wrong_grove_part(bag, roots, bushes):
    """The path of the first wrong part of what should be a grove, or None."""
    path = wrong_roots_part(bag, roots)
    if path is not None:
        return path
    if not is_list(bushes) or len(bushes) != len(roots):
        return (1,)
    met = {}
    for number, bush in enumerate(bushes):
        path = wrong_bush_part(bag, bush, (1, number), roots[number], met)
        if path is not None:
            return path
    if len(met) < len(bag.names()):
        return ()
    return None


def wrong_bush_part(bag, bush, path, colour, met):
    """The path of the first wrong part of the bush with a path at a place with a colour, or None.

    The names that are met in the walk are added to met.
    """
    waiting = [(bush, path, colour)]
    while waiting:
        part, here, there = waiting.pop()
        wrong = wrong_top(bag, part, here, there, met)
        if wrong is not None:
            return wrong
        met[part[0]] = True
        branches = bag.branches(part[0])
        lower = [(part[number + 1], here + (number + 1,), branches[number]) for number in range(len(branches))]
        waiting.extend(lower[::-1])
    return None


def wrong_top(bag, bush, path, colour, met):
    """The path of what is wrong with the first joint of a bush, or None."""
    if not isinstance(bush, tuple) or len(bush) == 0:
        return path
    name = bush[0]
    if not bag.has_name(name) or name in met or not bag.table().is_fit(bag.stem(name), colour):
        return path + (0,)
    if len(bush) != 1 + len(bag.branches(name)):
        return path
    return None


def check_alike(one, other):
    """Raise UnlikeGroves if two groves differ in their bags or their roots."""
    if one.bag() != other.bag() or one.roots() != other.roots():
        raise UnlikeGroves()
