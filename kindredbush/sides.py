"""What the two sides of a table tell: lone and pendant colours, twins, pieces, crossings."""

SIDES = ("stem", "place")


def other_side(side):
    """The side that is not this one."""
    if side == "stem":
        return "place"
    return "stem"


def colours_on(table, side):
    """The list of the colours of a side."""
    if side == "stem":
        return table.stems()
    return table.places()


def fits_on(table, side, colour):
    """The list of the fits of a colour of a side."""
    if side == "stem":
        return table.fits_of(colour)
    return table.fits_at(colour)


def alone(table):
    """The pairs (side, colour) of all colours without fits."""
    return [(side, colour) for side in SIDES for colour in colours_on(table, side)
            if not fits_on(table, side, colour)]


def pendants(table):
    """The triples (side, colour, other) of all colours whose only fit is other."""
    found = []
    for side in SIDES:
        for colour in colours_on(table, side):
            fits = fits_on(table, side, colour)
            if len(fits) == 1:
                found.append((side, colour, fits[0]))
    return found


def twins(table):
    """The triples (side, one, other) of all colours of a side with the same fits."""
    found = []
    for side in SIDES:
        colours = colours_on(table, side)
        for number, one in enumerate(colours):
            fits = fits_on(table, side, one)
            for other in colours[number + 1:]:
                if fits_on(table, side, other) == fits:
                    found.append((side, one, other))
    return found


def twin_lots(table):
    """The pairs (side, colours) of the lots of colours of a side with the same fits."""
    found = []
    for side in SIDES:
        lots = {}
        for colour in colours_on(table, side):
            lots.setdefault(tuple(fits_on(table, side, colour)), []).append(colour)
        for lot in lots.values():
            found.append((side, tuple(lot)))
    return found


def pieces_of(table):
    """The list of the pieces of a table."""
    found = []
    met = {}
    for stem in table.stems():
        if stem not in met:
            piece = piece_with(table, stem)
            for other in piece[0]:
                met[other] = True
            found.append(piece)
    for place in table.places():
        if not table.fits_at(place):
            found.append(((), (place,)))
    return found


def piece_with(table, stem):
    """The piece in which a stem colour is."""
    stems = {stem: True}
    places = {}
    waiting = [stem]
    while waiting:
        here = waiting.pop()
        for place in table.fits_of(here):
            places[place] = True
            for other in table.fits_at(place):
                if other not in stems:
                    stems[other] = True
                    waiting.append(other)
    return (tuple([other for other in table.stems() if other in stems]),
            tuple([place for place in table.places() if place in places]))


def crossing_of(table):
    """The first crossing of a table, or None if the table is nested."""
    stems = table.stems()
    for number, one in enumerate(stems):
        for other in stems[number + 1:]:
            crossing = crossing_with(table, one, other)
            if crossing is not None:
                return crossing
    return None


def crossing_with(table, one, other):
    """The first crossing of two stem colours, or None."""
    of_one = table.fits_of(one)
    of_other = table.fits_of(other)
    one_alone = [place for place in of_one if place not in of_other]
    other_alone = [place for place in of_other if place not in of_one]
    if not one_alone or not other_alone:
        return None
    return (one, one_alone[0], other, other_alone[0])


def nested_order(table):
    """The stem colours by their numbers of fits, or None if the table is not nested."""
    if crossing_of(table) is not None:
        return None
    return tuple(sorted(table.stems(), key=lambda stem: len(table.fits_of(stem))))
