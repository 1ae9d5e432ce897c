"""Words and numbers, and what is asked of values that may be anything."""

from kindredbush.errors import UnknownName

LETTERS = "abcdefghijklmnopqrstuvwxyz"
DIGITS = "0123456789"
LONGEST_WORD = 12


def is_word(value):
    """Whether a value is a word."""
    if not isinstance(value, str) or len(value) < 1 or len(value) > LONGEST_WORD:
        return False
    if value[0] not in LETTERS:
        return False
    return all([sign in LETTERS or sign in DIGITS for sign in value])


def is_number(value):
    """Whether a value is an integer of at least 0."""
    return isinstance(value, int) and not isinstance(value, bool) and value >= 0


def is_list(value):
    """Whether a value may stand where a list is expected."""
    return isinstance(value, (list, tuple))


def is_tuple_of(value, size):
    """Whether a value is a tuple with so many members."""
    return isinstance(value, tuple) and len(value) == size


def wrong_word(values):
    """The number of the first value that is no word or stands earlier, or None."""
    met = {}
    for number, value in enumerate(values):
        if not is_word(value) or value in met:
            return number
        met[value] = True
    return None


def wrong_word_list(values, number):
    """The path of the first wrong part of the list of words with this number, or None."""
    if not is_list(values):
        return (number,)
    at = wrong_word(values)
    if at is None:
        return None
    return (number, at)


def check_known(value, known):
    """Raise UnknownName if a value, which may be anything, is not among the known ones."""
    # A dict would have to hash the value, which may be a list.
    if value not in known:
        raise UnknownName(value)
