"""Scripts: deeds that are done one after another."""

from kindredbush.deeds import deed_back, led
from kindredbush.errors import BadDeed
from kindredbush.lexemes import Reader, written
from kindredbush.pieces import is_deed
from kindredbush.standings import coins_of
from kindredbush.words import is_list

# How many places follow the words of deeds.
SIZES = {"hang": 2, "stretch": 4}


def steps(grove, script):
    """The list of the groves that a script comes through, the first one included."""
    found = [grove]
    for number, deed in enumerate(script):
        if not is_deed(found[-1], deed):
            raise BadDeed(number)
        found.append(led(found[-1], deed))
    return found


def walked(grove, script):
    """The grove to which a script leads."""
    return steps(grove, script)[-1]


def script_back(grove, script):
    """The list of the canonical deeds of the script taken back."""
    back = [deed_back(before, deed) for before, deed in zip(steps(grove, script), script)]
    return back[::-1]


def first_bad(grove, value):
    """None if a value, which may be anything, is a script, and otherwise the number of its first fault."""
    if not is_list(value):
        return 0
    for number, deed in enumerate(value):
        if not is_deed(grove, deed):
            return number
        grove = led(grove, deed)
    return None


def price(script):
    """How many coins the deeds of a script cost."""
    return sum([coins_of(deed) for deed in script])


def script_text(script):
    """The written text of a script."""
    parts = ["script", "{"]
    for deed in script:
        parts.append(deed[0])
        for owner, number in deed[1:]:
            parts.extend([owner, str(number)])
        parts.append(";")
    return written(parts + ["}"])


def read_script(text):
    """The list of the deeds that a text tells."""
    reader = Reader(text)
    reader.take("script")
    reader.take("{")
    found = []
    while not reader.is_next("}"):
        found.append(taken_deed(reader))
    reader.take("}")
    reader.finish()
    return found


def taken_deed(reader):
    """Take a deed from a reader, and return it."""
    word = reader.take_any(list(SIZES))
    deed = (word,)
    for _ in range(SIZES[word]):
        deed = deed + (reader.take_place(),)
    reader.take(";")
    return deed
