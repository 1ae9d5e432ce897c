"""Flows: how many joints stand through the arrows of a ladder."""

from kindredbush.bags import colour_of


def flows(ladder, bag, roots):
    """The list of the flows, by the numbers of the arrows."""
    return flows_between(sides_of(ladder), excess_at(ladder, bag.joints(), roots))


def flows_between(sides, excess):
    """The list of the flows of arrows that begin on these sides, with this excess at the knots."""
    return [sum([excess[knot] for knot in side]) for side in sides]


def excess_at(ladder, joints, roots):
    """A dict of the numbers of joints less places that are at home at the knots."""
    excess = {knot: 0 for knot in ladder.knots()}
    for colour in roots:
        excess[ladder.place_home(colour)] -= 1
    for name, stem, branches in joints:
        excess[ladder.stem_home(stem)] += 1
        for colour in branches:
            excess[ladder.place_home(colour)] -= 1
    return excess


def sides_of(ladder):
    """The list of the sides on which the arrows begin, each as the list of its knots."""
    return [side_of(ladder, number) for number in range(len(ladder.arrows()))]


def side_of(ladder, number):
    """The list of the knots on the side on which an arrow begins."""
    near = {knot: [] for knot in ladder.knots()}
    for at, arrow in enumerate(ladder.arrows()):
        if at != number:
            near[arrow[0]].append(arrow[1])
            near[arrow[1]].append(arrow[0])
    start = ladder.arrows()[number][0]
    found = [start]
    # Each knot comes with the one from which it was reached, to which there is no other way.
    waiting = [(start, start)]
    while waiting:
        here, before = waiting.pop()
        further = [knot for knot in near[here] if knot != before]
        found.extend(further)
        waiting.extend([(knot, here) for knot in further])
    return found


def crossings(ladder, assembly):
    """The list of how many joints stand through each arrow in an assembly."""
    many = [0 for arrow in ladder.arrows()]
    bag = assembly.bag()
    for place, name in assembly.rows():
        home = ladder.stem_home(bag.stem(name))
        for number in ladder.way(home, ladder.place_home(colour_of(bag, assembly.roots(), place))):
            many[number] += 1
    return many
