"""What building and barred both need: balanced pieces, and knots that are reached from the roots."""

from kindredbush.flows import excess_at, flows


def unbalanced_in(ladder, bag, roots):
    """The list of the pieces that are not balanced, each as the ascending tuple of its knots."""
    excess = excess_at(ladder, bag.joints(), roots)
    return [tuple(sorted(piece)) for piece in ladder.pieces() if sum([excess[knot] for knot in piece]) != 0]


def is_buildable(ladder, bag, roots):
    """Whether there is a grove."""
    if unbalanced_in(ladder, bag, roots):
        return False
    many = flows(ladder, bag, roots)
    if any([flow < 0 for flow in many]):
        return False
    reached = reached_in(ladder, bag, roots, many)
    return all([knot in reached for knot in joint_knots(ladder, bag)])


def reached_in(ladder, bag, roots, many):
    """The ascending list of the reached knots, with these flows."""
    further = reached_from(ladder, bag, many)
    waiting = root_knots(ladder, roots)
    met = {}
    while waiting:
        knot = waiting.pop()
        if knot not in met:
            met[knot] = True
            waiting.extend(further[knot])
    return sorted(list(met))


def reached_from(ladder, bag, many):
    """A dict of the lists of the knots that are reached by one step from the knots, with these flows."""
    further = {knot: [] for knot in ladder.knots()}
    for name, stem, branches in bag.joints():
        further[ladder.stem_home(stem)].extend([ladder.place_home(colour) for colour in branches])
    for arrow, flow in zip(ladder.arrows(), many):
        if flow > 0:
            further[arrow[1]].append(arrow[0])
    return further


def root_knots(ladder, roots):
    """The list of the homes of the roots."""
    return [ladder.place_home(colour) for colour in roots]


def joint_knots(ladder, bag):
    """The list of the knots at which the joints are at home."""
    return [ladder.stem_home(stem) for name, stem, branches in bag.joints()]
