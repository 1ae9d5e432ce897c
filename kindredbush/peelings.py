"""Peelings, which take a table apart colour by colour, and the ladders that they make."""

from kindredbush.bars import bar_of
from kindredbush.errors import BadTable
from kindredbush.ladders import Ladder
from kindredbush.sides import SIDES, colours_on, fits_on, other_side
from kindredbush.tables import part_of
from kindredbush.words import is_list


def first_steps(table):
    """The list of all steps that can be done."""
    steps = []
    for side in SIDES:
        for colour in colours_on(table, side):
            steps.extend(steps_with(table, side, colour))
    return steps


def steps_with(table, side, colour):
    """The list of the steps that take off a colour of a side."""
    fits = fits_on(table, side, colour)
    steps = []
    if not fits:
        steps.append(("alone", side, colour, None))
    if len(fits) == 1:
        steps.append(("pendant", side, colour, fits[0]))
    for other in colours_on(table, side):
        if other != colour and fits_on(table, side, other) == fits:
            steps.append(("twin", side, colour, other))
    return steps


def step_done(table, step):
    """The table behind a step."""
    if step not in first_steps(table):
        raise BadTable("step", step)
    return without_colour(table, step[1], step[2])


def without_colour(table, side, colour):
    """The table without a colour of a side."""
    stems = table.stems()
    places = table.places()
    if side == "stem":
        stems.remove(colour)
    else:
        places.remove(colour)
    return part_of(table, stems, places)


def peeling_of(table):
    """A peeling of a table, or None if there is none."""
    peeling = []
    steps = first_steps(table)
    while steps:
        step = steps[0]
        peeling.append(step)
        table = without_colour(table, step[1], step[2])
        steps = first_steps(table)
    if has_colours(table):
        return None
    return peeling


def has_colours(table):
    """Whether a table has any colours."""
    return len(table.stems()) > 0 or len(table.places()) > 0


def judge_peeling(table, value):
    """None if a value, which may be anything, is a peeling, and otherwise the number of its first fault."""
    if not is_list(value):
        return 0
    for number, step in enumerate(value):
        if step not in first_steps(table):
            return number
        table = without_colour(table, step[1], step[2])
    if has_colours(table):
        return len(value)
    return None


def ladder_by(table, peeling):
    """The ladder of a peeling."""
    number = judge_peeling(table, peeling)
    if number is not None:
        raise BadTable("peeling", number)
    knots = []
    arrows = []
    homes = {}
    for step in reversed(peeling):
        put_back(step, knots, arrows, homes)
    return Ladder(knots, arrows, [(stem, homes[("stem", stem)]) for stem in table.stems()],
                  [(place, homes[("place", place)]) for place in table.places()])


def put_back(step, knots, arrows, homes):
    """Add to knots, arrows and homes what the ladder with the colour of a step has more."""
    word, side, colour, other = step
    if word == "alone":
        homes[(side, colour)] = new_knot(knots)
    elif word == "twin":
        homes[(side, colour)] = homes[(side, other)]
    else:
        old = homes[(other_side(side), other)]
        near = new_knot(knots)
        far = new_knot(knots)
        if side == "place":
            arrows.extend([(near, old), (near, far)])
        else:
            arrows.extend([(old, near), (far, near)])
        homes[(other_side(side), other)] = near
        homes[(side, colour)] = far


def new_knot(knots):
    """Add a knot with the next name to knots, and return it."""
    knot = f"k{len(knots)}"
    knots.append(knot)
    return knot


def ladder_of(table):
    """A ladder of a table."""
    peeling = peeling_of(table)
    if peeling is None:
        word, value = bar_of(table)
        raise BadTable(word, value)
    return ladder_by(table, peeling)
