"""Ladders: trees of arrows along which stems lead to the places that they fit."""

from kindredbush.errors import BadLadder, UnknownName
from kindredbush.tables import Table
from kindredbush.words import check_known, is_list, is_tuple_of, is_word, wrong_word_list


class Ladder:
    """Knots, arrows between them, and the homes of colours at them."""

    def __init__(self, knots, arrows, stem_homes, place_homes):
        path = wrong_ladder_part(knots, arrows, stem_homes, place_homes)
        if path is not None:
            raise BadLadder(path)
        self._knots = tuple(knots)
        self._arrows = tuple(arrows)
        self._stem_homes = tuple(stem_homes)
        self._place_homes = tuple(place_homes)

    def knots(self):
        """The list of the knots."""
        return list(self._knots)

    def arrows(self):
        """The list of the arrows."""
        return list(self._arrows)

    def stem_homes(self):
        """The list of the pairs (stem colour, knot)."""
        return list(self._stem_homes)

    def place_homes(self):
        """The list of the pairs (place colour, knot)."""
        return list(self._place_homes)

    def stem_home(self, colour):
        """The home of a stem colour."""
        return home_in(self._stem_homes, colour)

    def place_home(self, colour):
        """The home of a place colour."""
        return home_in(self._place_homes, colour)

    def leads(self, one, other):
        """Whether one is led from a knot to another one."""
        return self.way(one, other) is not None

    def way(self, one, other):
        """The numbers of the arrows along which one is led from a knot to another one, or None."""
        check_known(one, self._knots)
        check_known(other, self._knots)
        ways = ways_from(self._arrows, one)
        if other not in ways:
            return None
        return ways[other]

    def pieces(self):
        """The list of the lists of knots that hang together."""
        lots = {knot: knot for knot in self._knots}
        for one, other in self._arrows:
            lots = merged(lots, one, other)
        found = {}
        for knot in self._knots:
            found.setdefault(lots[knot], []).append(knot)
        return list(found.values())

    def __eq__(self, other):
        return (isinstance(other, Ladder) and self._knots == other._knots and self._arrows == other._arrows
                and self._stem_homes == other._stem_homes and self._place_homes == other._place_homes)


def wrong_ladder_part(knots, arrows, stem_homes, place_homes):
    """The path of the first wrong part of what should be a ladder, or None."""
    path = wrong_word_list(knots, 0)
    if path is None:
        path = wrong_arrows_part(knots, arrows)
    if path is None:
        path = wrong_homes_part(knots, stem_homes, 2)
    if path is None:
        path = wrong_homes_part(knots, place_homes, 3)
    return path


def wrong_arrows_part(knots, arrows):
    """The path of the first wrong part of the arrows between good knots, or None."""
    if not is_list(arrows):
        return (1,)
    lots = {knot: knot for knot in knots}
    for number, arrow in enumerate(arrows):
        if not is_tuple_of(arrow, 2):
            return (1, number)
        for end in range(2):
            if arrow[end] not in knots:
                return (1, number, end)
        if lots[arrow[0]] == lots[arrow[1]]:
            return (1, number)
        lots = merged(lots, arrow[0], arrow[1])
    return None


def wrong_homes_part(knots, homes, place):
    """The path of the first wrong part of a list of homes, which is the one with this number, or None."""
    if not is_list(homes):
        return (place,)
    met = {}
    for number, pair in enumerate(homes):
        if not is_tuple_of(pair, 2):
            return (place, number)
        if not is_word(pair[0]) or pair[0] in met:
            return (place, number, 0)
        if pair[1] not in knots:
            return (place, number, 1)
        met[pair[0]] = True
    return None


def merged(lots, one, other):
    """The lots of knots behind an arrow between two knots: those of both lots are in one."""
    old = lots[other]
    new = lots[one]
    return {knot: new if lot == old else lot for knot, lot in lots.items()}


def home_in(homes, colour):
    """The home of a colour, which may be anything, in a list of pairs."""
    for known, knot in homes:
        if known == colour:
            return knot
    raise UnknownName(colour)


def ways_from(arrows, knot):
    """A dict of the knots to which one is led from a knot, with the ways."""
    ways = {knot: []}
    waiting = [knot]
    while waiting:
        here = waiting.pop()
        for number, arrow in enumerate(arrows):
            if arrow[0] == here:
                ways[arrow[1]] = ways[here] + [number]
                waiting.append(arrow[1])
    return ways


def table_of(ladder, stems, places):
    """The table of a ladder with these stem colours and place colours."""
    stem_knots = [ladder.stem_home(stem) for stem in stems]
    place_knots = [ladder.place_home(place) for place in places]
    fits = []
    for stem, knot in zip(stems, stem_knots):
        ways = ways_from(ladder.arrows(), knot)
        for place, end in zip(places, place_knots):
            if end in ways:
                fits.append((stem, place))
    return Table(stems, places, fits)


def is_ladder_of(ladder, table):
    """Whether a ladder is a ladder of a table."""
    stems = [stem for stem, knot in ladder.stem_homes()]
    places = [place for place, knot in ladder.place_homes()]
    if any([stem not in stems for stem in table.stems()]):
        return False
    if any([place not in places for place in table.places()]):
        return False
    return table_of(ladder, table.stems(), table.places()) == table


def turned_ladder(ladder):
    """The ladder with its arrows turned, and the homes of stems and places exchanged."""
    return Ladder(ladder.knots(), [(other, one) for one, other in ladder.arrows()],
                  ladder.place_homes(), ladder.stem_homes())


def trimmed(ladder):
    """The ladder without the knots that are not needed for what fits what."""
    smaller = trimmed_once(ladder)
    while smaller is not None:
        ladder = smaller
        smaller = trimmed_once(ladder)
    return ladder


def trimmed_once(ladder):
    """The ladder without the first knot that is not needed, or None if all are needed."""
    for knot in ladder.knots():
        if is_loose(ladder, knot):
            return without_knot(ladder, knot)
    return None


def is_loose(ladder, knot):
    """Whether a knot can be taken out, its colours going to the other end of its only arrow."""
    near = [arrow for arrow in ladder.arrows() if knot in arrow]
    has_stems = any([home == knot for colour, home in ladder.stem_homes()])
    has_places = any([home == knot for colour, home in ladder.place_homes()])
    if len(near) > 1:
        return False
    if not has_stems and not has_places:
        return True
    if not near or (has_stems and has_places):
        return False
    if has_stems:
        return near[0][0] == knot
    return near[0][1] == knot


def without_knot(ladder, knot):
    """The ladder without a knot that can be taken out."""
    end = knot
    for one, other in ladder.arrows():
        if one == knot:
            end = other
        elif other == knot:
            end = one
    return Ladder([left for left in ladder.knots() if left != knot],
                  [arrow for arrow in ladder.arrows() if knot not in arrow],
                  moved(ladder.stem_homes(), knot, end), moved(ladder.place_homes(), knot, end))


def moved(homes, knot, end):
    """The homes, with those at a knot moved to another one."""
    return [(colour, end if home == knot else home) for colour, home in homes]


def tied(one, other, arrow):
    """The ladder to which two ladders are tied, by an arrow if one is told."""
    arrows = one.arrows() + other.arrows()
    if arrow is not None:
        arrows.append(arrow)
    return Ladder(one.knots() + other.knots(), arrows,
                  one.stem_homes() + other.stem_homes(), one.place_homes() + other.place_homes())
