"""The lexemes of a text, and how they are read and written."""

from kindredbush.errors import BadText
from kindredbush.words import DIGITS, LETTERS, LONGEST_WORD

SIGNS = "(){},;"
GAPS = " \n"


def lexemes(text):
    """The list of the lexemes of a text, as tuples (sort, lexeme, place)."""
    found, wrong = scanned(text)
    if wrong is not None:
        raise BadText(wrong)
    return found


def scanned(text):
    """The lexemes ahead of the first wrong character, and the place of this one or None."""
    found = []
    at = 0
    while at < len(text):
        if text[at] in GAPS:
            at += 1
        else:
            end = lexeme_end(text, at)
            if end == at:
                return (found, at)
            found.append((sort_of(text[at]), text[at:end], at))
            at = end
    return (found, None)


def sort_of(sign):
    """The sort of the lexemes that begin with a character."""
    if sign in LETTERS:
        return "word"
    if sign in DIGITS:
        return "number"
    return "sign"


def lexeme_end(text, at):
    """The place behind the lexeme that begins at a place; the place itself if none does."""
    sign = text[at]
    if sign in SIGNS or sign == "0":
        return at + 1
    if sign in DIGITS:
        return run_end(text, at, DIGITS)
    if sign in LETTERS:
        end = run_end(text, at, LETTERS + DIGITS)
        if end - at <= LONGEST_WORD:
            return end
    return at


def run_end(text, at, signs):
    """The place of the first character from a place on that is none of some signs."""
    while at < len(text) and text[at] in signs:
        at += 1
    return at


class Reader:
    """Takes the lexemes of a text one after another, as far as they are what a form asks for.

    Where it is asked for something else than what comes next, that is the first wrong place.
    """

    def __init__(self, text):
        found, wrong = scanned(text)
        self._found = found
        self._wrong = wrong
        self._length = len(text)
        self._at = 0

    def is_next(self, lexeme):
        """Whether a certain word or sign comes next."""
        return self._at < len(self._found) and self._found[self._at][1] == lexeme

    def take(self, lexeme):
        """Take a certain word or sign."""
        if not self.is_next(lexeme):
            raise BadText(self._place())
        self._at += 1

    def take_any(self, words):
        """Take any one of some words, and return it."""
        for word in words:
            if self.is_next(word):
                self.take(word)
                return word
        raise BadText(self._place())

    def take_name(self):
        """Take any word, and return it."""
        return self._take_sort("word")

    def take_number(self):
        """Take any number, and return it as an integer."""
        return int(self._take_sort("number"))

    def _take_sort(self, sort):
        """Take any lexeme of a sort, and return it."""
        if self._at == len(self._found) or self._found[self._at][0] != sort:
            raise BadText(self._place())
        self._at += 1
        return self._found[self._at - 1][1]

    def take_names(self):
        """Take a list of names in parentheses, and return it."""
        self.take("(")
        names = []
        while not self.is_next(")"):
            if names:
                self.take(",")
            names.append(self.take_name())
        self.take(")")
        return names

    def take_place(self):
        """Take a name and a number, and return them as a place."""
        owner = self.take_name()
        return (owner, self.take_number())

    def finish(self):
        """Take the end of the text."""
        if self._at < len(self._found) or self._wrong is not None:
            raise BadText(self._place())

    def _place(self):
        """The place of what comes next."""
        if self._at < len(self._found):
            return self._found[self._at][2]
        if self._wrong is not None:
            return self._wrong
        return self._length


def written(parts):
    """The written text of a list of lexemes, of which the last one is a }."""
    text = []
    for part, after in zip(parts, parts[1:] + [""]):
        text.append(part)
        if part in ("{", "}", ";"):
            text.append("\n")
        elif part != "(" and after not in (")", ",", ";"):
            text.append(" ")
    return "".join(text)


def name_list(names):
    """The lexemes of a list of names in parentheses."""
    parts = ["("]
    for number, name in enumerate(names):
        if number > 0:
            parts.append(",")
        parts.append(name)
    return parts + [")"]
