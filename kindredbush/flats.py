"""Flat groves: groves in which adapters stand between joints and places with another knot."""

from kindredbush.bags import colour_of, is_place, places_of
from kindredbush.errors import UnknownName
from kindredbush.flows import flows
from kindredbush.groves import walked
from kindredbush.words import is_number, is_tuple_of


class Ground:
    """What all flat groves of a ladder, a bag and roots have in common; holders are names and adapters."""

    def __init__(self, ladder, bag, roots):
        self._ladder = ladder
        self._bag = bag
        self._roots = tuple(roots)
        self._arrows = tuple(ladder.arrows())
        self._flows = tuple(flows(ladder, bag, roots))

    def roots(self):
        """The tuple of the colours of the roots."""
        return self._roots

    def adapters(self):
        """The list of the adapters, in order."""
        return [(number, at) for number, flow in enumerate(self._flows) for at in range(flow)]

    def holders(self):
        """The list of all names and adapters."""
        return self._bag.names() + self.adapters()

    def places(self):
        """The list of the flat places, in order."""
        return places_of(self._bag, self._roots) + [(adapter, 0) for adapter in self.adapters()]

    def is_adapter(self, value):
        """Whether a value, which may be anything, is an adapter."""
        if not is_tuple_of(value, 2) or not is_number(value[0]) or not is_number(value[1]):
            return False
        return value[0] < len(self._flows) and value[1] < self._flows[value[0]]

    def is_holder(self, value):
        """Whether a value, which may be anything, is the name of a joint or an adapter."""
        return self._bag.has_name(value) or self.is_adapter(value)

    def is_place(self, value):
        """Whether a value, which may be anything, is a flat place."""
        if is_tuple_of(value, 2) and self.is_adapter(value[0]):
            return is_number(value[1]) and value[1] == 0
        return is_place(self._bag, self._roots, value)

    def knot(self, place):
        """The knot of a flat place."""
        if isinstance(place[0], tuple):
            return self._arrows[place[0][0]][0]
        return self._ladder.place_home(colour_of(self._bag, self._roots, place))

    def home(self, holder):
        """The knot of the stem of a name or adapter."""
        if isinstance(holder, tuple):
            return self._arrows[holder[0]][1]
        return self._ladder.stem_home(self._bag.stem(holder))

    def branches(self, holder):
        """The list of the places that a name or adapter owns."""
        if isinstance(holder, tuple):
            return [(holder, 0)]
        return [(holder, number) for number in range(len(self._bag.branches(holder)))]


def adapters(ladder, bag, roots):
    """The list of the adapters, in order."""
    return Ground(ladder, bag, roots).adapters()


def flat_places(ladder, bag, roots):
    """The list of the flat places, in order."""
    return Ground(ladder, bag, roots).places()


def knot_at(ladder, bag, roots, place):
    """The knot of a flat place."""
    ground = Ground(ladder, bag, roots)
    check_flat_place(ground, place)
    return ground.knot(place)


def check_flat_place(ground, value):
    """Raise UnknownName if a value, which may be anything, is no flat place."""
    if not ground.is_place(value):
        raise UnknownName(value)


def is_flat(ladder, bag, roots, value):
    """Whether a value, which may be anything, is a flat grove."""
    ground = Ground(ladder, bag, roots)
    if not is_tuple_of(value, len(roots)):
        return False
    waiting = [(("root", number), bush) for number, bush in enumerate(value)]
    met = {}
    while waiting:
        place, bush = waiting.pop()
        if not is_flat_top(ground, place, bush) or bush[0] in met:
            return False
        met[bush[0]] = True
        waiting.extend(list(zip(ground.branches(bush[0]), bush[1:])))
    return len(met) == len(ground.holders())


def is_flat_top(ground, place, bush):
    """Whether a value has a name or adapter that may stand at a flat place, and so many members as this one needs."""
    if not isinstance(bush, tuple) or len(bush) == 0 or not ground.is_holder(bush[0]):
        return False
    return ground.home(bush[0]) == ground.knot(place) and len(bush) == 1 + len(ground.branches(bush[0]))


def first_flat(ladder, grove):
    """The first flat grove of a grove."""
    ground = Ground(ladder, grove.bag(), grove.roots())
    many = [0 for arrow in ladder.arrows()]
    holders = {}
    for name in grove.walk():
        place = grove.place(name)
        way = ladder.way(ground.home(name), ground.knot(place))
        for number in way[::-1]:
            adapter = (number, many[number])
            many[number] += 1
            holders[place] = adapter
            place = (adapter, 0)
        holders[place] = name
    return flat_of(ground, holders)


def flat_of(ground, holders):
    """The flat grove with these names and adapters at the flat places, which are in no loop."""
    tops = [("root", number) for number in range(len(ground.roots()))]
    order = []
    waiting = tops[:]
    while waiting:
        place = waiting.pop()
        order.append(place)
        waiting.extend(ground.branches(holders[place]))
    # From the last place to the first one, so that what hangs at a place is made before the place's turn.
    bushes = {}
    for place in order[::-1]:
        holder = holders[place]
        bushes[place] = (holder,) + tuple([bushes[lower] for lower in ground.branches(holder)])
    return tuple([bushes[place] for place in tops])


def count_flats(ladder, bag, roots):
    """How many flat groves are seen as the same grove: the product of the factorials of all flows."""
    count = 1
    for flow in flows(ladder, bag, roots):
        for number in range(2, flow + 1):
            count = count * number
    return count


def flat_rows(ladder, bag, roots, flat):
    """The list of the pairs of a flat place and what stands there, in the order of flat places."""
    return rows_of(Ground(ladder, bag, roots), flat)


def rows_of(ground, flat):
    """The list of the pairs of a flat place and what stands there, in the order of flat places."""
    holders = {}
    for number, bush in enumerate(flat):
        for place, part in walked(("root", number), bush):
            holders[place] = part[0]
    return [(place, holders[place]) for place in ground.places()]
