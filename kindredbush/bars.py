"""Bars: rings and dominoes, which are why a table has no ladder."""

from kindredbush.words import is_tuple_of, wrong_word

# Which of the three stems of a domino do not fit which of its three places.
DOMINO_GAPS = ((1, 2), (2, 0))


def bar_of(table):
    """A bar of a table, or None if there is none."""
    domino = first_domino(table)
    if domino is not None:
        return ("domino", domino)
    ring = first_ring(table)
    if ring is not None:
        return ("ring", ring)
    return None


def first_domino(table):
    """A domino of a table, or None."""
    for long in table.stems():
        for one in table.stems():
            for other in table.stems():
                of_one, of_both, of_other = shared_places(table, long, one, other)
                if of_one and of_both and of_other:
                    return (long, of_one[0], one, of_both[0], other, of_other[0])
    return None


def shared_places(table, long, one, other):
    """The fits of the stem long that one alone of two stems has, that both have, that the other alone has.

    If two of the three stems are the same, one of the lists is empty.
    """
    fits = table.fits_of(long)
    of_one = [place for place in table.fits_of(one) if place in fits]
    of_other = [place for place in table.fits_of(other) if place in fits]
    return ([place for place in of_one if place not in of_other],
            [place for place in of_one if place in of_other],
            [place for place in of_other if place not in of_one])


def first_ring(table):
    """A ring of a table, or None."""
    for stem in table.stems():
        fits = table.fits_of(stem)
        for number, first in enumerate(fits):
            for last in fits[number + 1:]:
                way = way_round(table, stem, first, last)
                if way is not None:
                    return (stem,) + way
    return None


def way_round(table, stem, first, last):
    """A shortest way from one fit of a stem to another one that makes a ring with the stem, or None.

    Other fits of the stem, and stems that fit both ends, would be fits across the ring. No other
    fit can be across it, since the way would be shorter along it.
    """
    barred = [place for place in table.fits_of(stem) if place != last]
    both = [other for other in table.fits_at(first) if other in table.fits_at(last)]
    met = {place: True for place in barred}
    ways = [(first,)]
    while ways:
        longer = []
        for way in ways:
            if way[-1] == last:
                return way
            for other in table.fits_at(way[-1]):
                for place in table.fits_of(other):
                    if other not in both and place not in met:
                        met[place] = True
                        longer.append(way + (other, place))
        ways = longer
    return None


def judge_bar(table, value):
    """Whether a value, which may be anything, is a bar of a table."""
    if not is_tuple_of(value, 2):
        return False
    word, colours = value
    if not isinstance(colours, tuple) or len(colours) < 6 or len(colours) % 2 == 1:
        return False
    stems = colours[0::2]
    places = colours[1::2]
    if not are_different(stems, table.stems()) or not are_different(places, table.places()):
        return False
    if word == "ring":
        return is_ring(table, stems, places)
    return word == "domino" and is_domino(table, stems, places)


def are_different(colours, known):
    """Whether all members of a tuple of anything are different colours among the known ones."""
    return wrong_word(colours) is None and all([colour in known for colour in colours])


def is_ring(table, stems, places):
    """Whether each stem fits just the place behind it and the one ahead of it."""
    for number, stem in enumerate(stems):
        near = (places[number], places[number - 1])
        for place in places:
            if table.is_fit(stem, place) != (place in near):
                return False
    return True


def is_domino(table, stems, places):
    """Whether stems and places are three of each that fit as those of a domino do."""
    if len(stems) != 3:
        return False
    for number, stem in enumerate(stems):
        for at, place in enumerate(places):
            if table.is_fit(stem, place) == ((number, at) in DOMINO_GAPS):
                return False
    return True


def rings_of(table):
    """The list of all rings of a table, ascending, each told once."""
    found = []
    waiting = [(stem, place) for stem, place in table.fits()]
    while waiting:
        trail = waiting.pop()
        for longer in longer_trails(table, trail):
            if not table.is_fit(trail[0], longer[-1]):
                waiting.append(longer)
            elif len(longer) > 4 and longer[1] < longer[-1]:
                found.append(longer)
    return sorted(found)


def longer_trails(table, trail):
    """The trails with a stem and a place more than a trail, without fits across but with the first stem."""
    found = []
    for stem in table.fits_at(trail[-1]):
        if stem > trail[0] and not any([table.is_fit(stem, place) for place in trail[1:-1:2]]):
            for place in table.fits_of(stem):
                if place not in trail[1::2] and not any([table.is_fit(other, place) for other in trail[2::2]]):
                    found.append(trail + (stem, place))
    return found


def dominoes_of(table):
    """The list of all dominoes of a table, ascending, each told once."""
    found = []
    for long in table.stems():
        for one in table.stems():
            for other in table.stems():
                of_one, of_both, of_other = shared_places(table, long, one, other)
                found.extend([(long, first, one, middle, other, last)
                              for first in of_one for middle in of_both for last in of_other if first < last])
    return sorted(found)
