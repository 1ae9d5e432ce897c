"""Tables as texts."""

from kindredbush.lexemes import Reader, name_list, written
from kindredbush.tables import Table


def table_text(table):
    """The written text of a table."""
    parts = ["table"] + name_list(table.stems()) + name_list(table.places()) + ["{"]
    for stem, place in table.fits():
        parts.extend([stem, place, ";"])
    return written(parts + ["}"])


def read_table(text):
    """The table that a text tells."""
    reader = Reader(text)
    reader.take("table")
    stems = reader.take_names()
    places = reader.take_names()
    reader.take("{")
    fits = []
    while not reader.is_next("}"):
        stem = reader.take_name()
        place = reader.take_name()
        reader.take(";")
        fits.append((stem, place))
    reader.take("}")
    reader.finish()
    return Table(stems, places, fits)
