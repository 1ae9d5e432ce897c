"""What several tests need: odd values, errors with their attributes, and the rules that hold for all calls."""

import copy

from kindredbush.assemblies import Assembly
from kindredbush.bags import Bag
from kindredbush.errors import BadText
from kindredbush.groves import Grove
from kindredbush.house import House
from kindredbush.kinds import Kinds
from kindredbush.ladders import Ladder, table_of
from kindredbush.lexemes import lexemes
from kindredbush.tables import Table

# The table T of S1.1.
T = Table(["a", "b"], ["x", "y", "z"], [("a", "x"), ("a", "y"), ("b", "y"), ("b", "z")])

# The ladder of S2.2.
LADDER = Ladder(["u", "v", "w"], [("u", "v"), ("u", "w")], [("red", "u"), ("blue", "v")], [("x", "v"), ("y", "w")])

# The table, bag and groves of S3.8.
BUSH_TABLE = Table(["a", "b"], ["x", "y"], [("a", "x"), ("a", "y"), ("b", "y")])
BAG = Bag(BUSH_TABLE, [("p", "a", ("y", "x")), ("q", "a", ("y",)), ("r", "a", ()), ("t", "b", ())])
GROVE = Grove(BAG, ["x"], [("p", ("q", ("t",)), ("r",))])
OTHER_GROVE = Grove(BAG, ["x"], [("q", ("p", ("t",), ("r",)))])

RING_FITS = [("a", "x"), ("a", "y"), ("b", "y"), ("b", "z"), ("c", "z"), ("c", "x")]
RING_TABLE = Table(["a", "b", "c"], ["x", "y", "z"], RING_FITS)
FORM_WORDS = ("table", "bag", "joint", "grove", "script", "hang", "stretch")
DOMINO_TABLE = Table(["a", "b", "c"], ["p", "q", "w"],
                     [("a", "p"), ("a", "q"), ("a", "w"), ("b", "p"), ("b", "q"), ("c", "q"), ("c", "w")])


def nested(depth):
    """A tuple and a list that are nested so deep."""
    value = "x"
    for number in range(depth):
        value = (value,) if number % 2 else [value]
    return value


# One of each kind of value that may be passed where anything may be passed.
ODD_VALUES = [
    None, True, False, 0, 1, -1, 10 ** 39, "", " ", "A", "a b", "1a", "a_b", "aB", "abcdefghijklm", "\t", "\n",
    (), [], {}, ("nothere",), ["x"], {"x": "y"}, (("x",),), ("root",), ("root", True), ("root", False),
    ("root", 0, 0), ["root", 0], ("root", -1), ("root", 10 ** 39), ("p", None), (None, 0), ([], {}), ({}, []),
    nested(40), T, LADDER, BAG, GROVE, Assembly(BAG, ["x"], GROVE.rows()), Kinds([("x", None)]), House(GROVE),
]


def cases(test, values):
    """Go through values, each in a subtest."""
    for value in values:
        with test.subTest(value=repr(value)[:200]):
            yield value


def raises(test, error, attributes, function, *arguments):
    """The call raises just this error with just these attributes, and again when it is repeated."""
    for _ in range(2):
        try:
            result = function(*arguments)
        except (ValueError, LookupError, TypeError, AttributeError) as met:
            test.assertIs(type(met), error, repr(met))
            test.assertEqual(vars(met), attributes)
            for name, value in attributes.items():
                test.assertIs(type(getattr(met, name)), type(value))
        else:
            test.fail(f"no error, but {result!r}")


def lists_in(value):
    """All lists and dicts that are built into a value."""
    found = []
    if isinstance(value, (list, dict)):
        found.append(value)
    if isinstance(value, (list, tuple)):
        for member in value:
            found.extend(lists_in(member))
    if isinstance(value, dict):
        for member in value.values():
            found.extend(lists_in(member))
    return found


def spoil(value):
    """Change all lists and dicts in a value."""
    for one in lists_in(value):
        if isinstance(one, list):
            one.append("spoilt")
            one[0] = "spoilt"
        else:
            one["spoilt"] = "spoilt"


def plain(test, value):
    """A value is of plain kinds throughout."""
    if isinstance(value, (Table, Ladder, Bag, Grove, Assembly, Kinds, House)):
        return
    test.assertIn(type(value), (int, str, bool, tuple, list, type(None)))
    if isinstance(value, (list, tuple)):
        for member in value:
            plain(test, member)


def keeps_the_rules(test, function, *arguments):
    """A call changes no argument, its lists are new, and it can be repeated. Returns its value."""
    before = copy.deepcopy(arguments)
    first = function(*arguments)
    test.assertEqual(arguments, before)
    plain(test, first)
    kept = copy.deepcopy(first)
    second = function(*arguments)
    test.assertEqual(second, kept)
    known = lists_in(list(arguments))[1:] + lists_in(second)
    for one in lists_in(first):
        test.assertFalse(any(one is other for other in known))
    test.assertEqual(len({id(one) for one in lists_in(first)}), len(lists_in(first)))
    spoil(first)
    test.assertEqual(arguments, before)
    test.assertEqual(function(*arguments), kept)
    test.assertEqual(function(*copy.deepcopy(arguments)), kept)
    return kept


def all_tables(stems, places):
    """All tables with these colours."""
    pairs = [(stem, place) for stem in stems for place in places]
    for mask in range(2 ** len(pairs)):
        yield Table(stems, places, [pair for number, pair in enumerate(pairs) if mask >> number & 1])


def some_table(chance, stems, places, part):
    """A table in which about part of the pairs fit."""
    return Table(stems, places, [(stem, place) for stem in stems for place in places if chance.random() < part])


def some_ladder(chance, knots, stems, places):
    """A ladder with so many knots, stem colours and place colours."""
    names = [f"n{number}" for number in range(knots)]
    arrows = []
    for number in range(1, knots):
        if chance.random() < 0.9:
            pair = [names[number], names[chance.randrange(number)]]
            chance.shuffle(pair)
            arrows.append(tuple(pair))
    chance.shuffle(names)
    chance.shuffle(arrows)
    return Ladder(names, arrows, [(f"s{number}", chance.choice(names)) for number in range(stems)],
                  [(f"p{number}", chance.choice(names)) for number in range(places)])


def place_by_states(words, begin, step, end):
    """The first wrong place of words with blanks between, by a function from a state and a word to a state or None."""
    state, place = begin, 0
    for word in words:
        state = step(state, word)
        if state is None:
            return place
        place += len(word) + 1
    return None if state == end else place


def ways_off(words, sorts):
    """Each beginning of some words, and all that differs from them by one of these or lacks one."""
    tried = []
    for at in range(len(words) + 1):
        tried.append(words[:at])
        tried.append(words[:at] + words[at + 1:])
        for word in sorts:
            tried.append(words[:at] + [word])
            tried.append(words[:at] + [word] + words[at:])
            tried.append(words[:at] + [word] + words[at + 1:])
    return tried


def check_cut_off(test, read, text):
    """Each beginning of a text, in which no name is a word of a form, is wrong at its end or at a word cut off."""
    words = [(lexeme, place) for sort, lexeme, place in lexemes(text) if lexeme in FORM_WORDS]
    for end in range(len(text.rstrip("\n"))):
        cut = [place for lexeme, place in words if place < end < place + len(lexeme)]
        with test.subTest(text=text[:end]):
            raises(test, BadText, {"place": cut[0] if cut else end}, read, text[:end])


def some_bag(chance, ladder, joints, roots):
    """A bag with so many joints over the table of a ladder, and so many roots if there are enough joints."""
    table = table_of(ladder, [stem for stem, _ in ladder.stem_homes()], [place for place, _ in ladder.place_homes()])
    many = [0] * joints
    for _ in range(joints - roots):
        many[chance.randrange(joints)] += 1
    bag = Bag(table, [(f"j{n}", chance.choice(table.stems()), tuple(chance.choice(table.places()) for _ in range(k)))
                      for n, k in enumerate(many)])
    return bag, tuple(chance.choice(table.places()) for _ in range(joints - sum(many)))
