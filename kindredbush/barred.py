"""Why joints cannot be put together, and with which roots they can."""

from kindredbush.errors import TooGreat
from kindredbush.flows import flows
from kindredbush.reaching import is_buildable, joint_knots, reached_from, reached_in, root_knots, unbalanced_in
from kindredbush.words import is_number, is_tuple_of

MOST_ROOTS = 6


def unbuilt_paper(ladder, bag, roots):
    """The first unbuilt paper, or None if there is a grove."""
    pieces = unbalanced_in(ladder, bag, roots)
    if pieces:
        return ("piece", pieces[0])
    many = flows(ladder, bag, roots)
    for number, flow in enumerate(many):
        if flow < 0:
            return ("flow", number)
    knots = reached_in(ladder, bag, roots, many)
    if all([knot in knots for knot in joint_knots(ladder, bag)]):
        return None
    return ("closed", tuple(knots))


def judge_unbuilt(ladder, bag, roots, value):
    """Whether a value, which may be anything, is an unbuilt paper."""
    if not is_tuple_of(value, 2):
        return False
    word, told = value
    if word == "piece":
        return told in unbalanced_in(ladder, bag, roots)
    if word == "flow":
        many = flows(ladder, bag, roots)
        return is_number(told) and told < len(many) and many[told] < 0
    return word == "closed" and is_ascending(ladder, told) and is_closed(ladder, bag, roots, told)


def is_ascending(ladder, value):
    """Whether a value, which may be anything, is a tuple of ascending knots of a ladder."""
    knots = ladder.knots()
    if not isinstance(value, tuple) or not all([knot in knots for knot in value]):
        return False
    return all([one < other for one, other in zip(value, value[1:])])


def is_closed(ladder, bag, roots, knots):
    """Whether some knots have those of all roots and what is reached from them, but not those of all joints."""
    if not all([knot in knots for knot in root_knots(ladder, roots)]):
        return False
    further = reached_from(ladder, bag, flows(ladder, bag, roots))
    if not all([other in knots for knot in knots for other in further[knot]]):
        return False
    return not all([knot in knots for knot in joint_knots(ladder, bag)])


def possible_roots(ladder, bag):
    """The ascending list of the ascending tuples of place colours with which as roots the bag has a grove."""
    joints = bag.joints()
    many = len(joints) - sum([len(branches) for name, stem, branches in joints])
    if many > MOST_ROOTS:
        raise TooGreat()
    if many < 0:
        return []
    colours = sorted(bag.table().places())
    found = [()]
    for _ in range(many):
        found = [roots + (colour,) for roots in found for colour in colours if not roots or roots[-1] <= colour]
    return [roots for roots in found if is_buildable(ladder, bag, roots)]
