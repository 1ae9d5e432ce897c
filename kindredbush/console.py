"""A console that does in a house what lines say."""

from kindredbush.bars import bar_of
from kindredbush.errors import BadAct, BadText, NothingDone, UnknownName, UnlikeGroves
from kindredbush.grovetexts import bush_text, taken_bush, taken_bushes, taken_joint
from kindredbush.lexemes import Reader

# The words with which lines begin, with what follows them.
FORMS = {
    "hang": ("place", "place"), "stretch": ("place", "place", "place", "place"),
    "allow": ("name", "name"), "forbid": ("name", "name"), "nail": ("place",), "free": ("place",),
    "goal": ("bushes",), "plant": ("name", "joints", "bush"), "fell": ("number",),
    "undo": (), "redo": (), "keep": ("name",),
    "show": (), "due": (), "left": (), "paid": (), "bar": (), "way": (), "nails": (),
    "at": ("place",), "where": ("name",), "to": ("name",),
}
ACTS = ("hang", "stretch", "allow", "forbid", "nail", "free", "goal", "plant", "fell")


class Console:
    """Speaks for a house."""

    def __init__(self, house):
        self._house = house

    def house(self):
        """The house."""
        return self._house

    def say(self, line):
        """Do what a line says, and return the answer."""
        try:
            return answer_of(self._house, told(line))
        except BadText as wrong:
            return f"no BadText {wrong.place}"
        except BadAct as refused:
            return f"no BadAct {refused.word}"
        except NothingDone:
            return "no NothingDone"
        except UnknownName:
            return "no UnknownName"
        except UnlikeGroves:
            return "no UnlikeGroves"


def told(line):
    """The tuple of the first word of a line and what follows it."""
    reader = Reader(line)
    word = reader.take_any(list(FORMS))
    members = [taken_member(reader, sort) for sort in FORMS[word]]
    reader.finish()
    return (word,) + tuple(members)


def taken_member(reader, sort):
    """Take a member of a sort from a reader, and return it."""
    if sort == "place":
        return reader.take_place()
    if sort == "number":
        return reader.take_number()
    if sort == "bushes":
        return taken_goal(reader)
    if sort == "joints":
        return taken_joints(reader)
    if sort == "bush":
        return taken_bush(reader)
    return reader.take_name()


def taken_goal(reader):
    """Take the bushes of a goal from a reader, if there are any, and return the tuple of them or None."""
    if not reader.is_next("{"):
        return None
    return tuple(taken_bushes(reader))


def taken_joints(reader):
    """Take joints in parentheses from a reader, and return the tuple of them."""
    reader.take("(")
    joints = []
    while not reader.is_next(")"):
        if joints:
            reader.take(",")
        joints.append(taken_joint(reader))
    reader.take(")")
    return tuple(joints)


def answer_of(house, said):
    """The answer of a house to a line that was told as a tuple."""
    word = said[0]
    if word in ACTS:
        return str(house.do(said))
    if word == "undo":
        return str(house.undo())
    if word == "redo":
        return str(house.redo())
    if word == "keep":
        house.keep(said[1])
        return str(len(house.marks()))
    return shown(house, word, said[1:])


def shown(house, word, members):
    """What a house tells of itself, asked by a word and what follows it."""
    if word == "show":
        return "; ".join([bush_text(bush) for bush in house.grove().bushes()])
    if word == "due":
        return number_text(house.due())
    if word == "left":
        return number_text(house.left())
    if word == "paid":
        return str(house.paid())
    if word == "bar":
        return bar_text(bar_of(house.kin()))
    if word == "way":
        return way_text(house.way())
    if word == "nails":
        return ", ".join([place_text(place) for place in house.nails()])
    if word == "at":
        return house.grove().joint(members[0])
    if word == "where":
        return place_text(house.grove().place(members[0]))
    return str(house.due_to(members[0]))


def number_text(number):
    """A number, or the word for None."""
    if number is None:
        return "none"
    return str(number)


def bar_text(bar):
    """The word and the colours of a bar, or the word for None."""
    if bar is None:
        return "none"
    return " ".join([bar[0]] + list(bar[1]))


def way_text(deeds):
    """The deeds of a way, or the word for None."""
    if deeds is None:
        return "none"
    return "; ".join([" ".join([deed[0]] + [place_text(place) for place in deed[1:]]) for deed in deeds])


def place_text(place):
    """A place as its name and its number."""
    return f"{place[0]} {place[1]}"
