"""Tables of what fits where."""

from kindredbush.errors import BadFits
from kindredbush.words import check_known, is_list, is_tuple_of, wrong_word_list


class Table:
    """Stem colours, place colours, and the pairs of them that fit."""

    def __init__(self, stems, places, fits):
        path = wrong_table_part(stems, places, fits)
        if path is not None:
            raise BadFits(path)
        told = fits_in_order(stems, places, fits)
        by_stem = {stem: [] for stem in stems}
        by_place = {place: [] for place in places}
        for stem, place in told:
            by_stem[stem].append(place)
            by_place[place].append(stem)
        self._stems = tuple(stems)
        self._places = tuple(places)
        self._fits = tuple(told)
        self._by_stem = by_stem
        self._by_place = by_place

    def stems(self):
        """The list of the stem colours."""
        return list(self._stems)

    def places(self):
        """The list of the place colours."""
        return list(self._places)

    def fits(self):
        """The list of the fits, in order."""
        return list(self._fits)

    def is_fit(self, stem, place):
        """Whether a stem colour fits a place colour."""
        check_known(stem, self._stems)
        check_known(place, self._places)
        return place in self._by_stem[stem]

    def fits_of(self, stem):
        """The list of the place colours that a stem colour fits."""
        check_known(stem, self._stems)
        return list(self._by_stem[stem])

    def fits_at(self, place):
        """The list of the stem colours that fit a place colour."""
        check_known(place, self._places)
        return list(self._by_place[place])

    def __eq__(self, other):
        return (isinstance(other, Table) and self._stems == other._stems
                and self._places == other._places and self._fits == other._fits)


def wrong_table_part(stems, places, fits):
    """The path of the first wrong part of what should be a table, or None."""
    path = wrong_word_list(stems, 0)
    if path is None:
        path = wrong_word_list(places, 1)
    if path is None:
        path = wrong_fits_part(stems, places, fits)
    return path


def wrong_fits_part(stems, places, fits):
    """The path of the first wrong part of the fits of good lists of colours, or None."""
    if not is_list(fits):
        return (2,)
    met = {}
    for number, fit in enumerate(fits):
        if not is_tuple_of(fit, 2):
            return (2, number)
        if fit[0] not in stems:
            return (2, number, 0)
        if fit[1] not in places:
            return (2, number, 1)
        if fit in met:
            return (2, number)
        met[fit] = True
    return None


def fits_in_order(stems, places, fits):
    """The list of the fits by the lists of the colours."""
    stem_numbers = {stem: number for number, stem in enumerate(stems)}
    place_numbers = {place: number for number, place in enumerate(places)}
    rows = sorted([(stem_numbers[stem], place_numbers[place]) for stem, place in fits])
    return [(stems[row[0]], places[row[1]]) for row in rows]


def turned(table):
    """The table with stems and places exchanged."""
    return Table(table.places(), table.stems(), [(place, stem) for stem, place in table.fits()])


def part_of(table, stems, places):
    """The part of a table with these colours."""
    for stem in stems:
        check_known(stem, table.stems())
    for place in places:
        check_known(place, table.places())
    return Table([stem for stem in table.stems() if stem in stems],
                 [place for place in table.places() if place in places],
                 [fit for fit in table.fits() if fit[0] in stems and fit[1] in places])


def with_fit(table, stem, place):
    """The table in which a stem colour fits a place colour, and all else is as before."""
    if table.is_fit(stem, place):
        return table
    return Table(table.stems(), table.places(), table.fits() + [(stem, place)])


def without_fit(table, stem, place):
    """The table in which a stem colour does not fit a place colour, and all else is as before."""
    if not table.is_fit(stem, place):
        return table
    return Table(table.stems(), table.places(), [fit for fit in table.fits() if fit != (stem, place)])
