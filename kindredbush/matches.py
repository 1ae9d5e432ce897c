"""Pairs of flat groves: their flat rings, matched ones, and fewest ways from one to another."""

from kindredbush.flats import Ground, flat_of, is_flat, rows_of
from kindredbush.flows import side_of
from kindredbush.groves import check_alike
from kindredbush.rings import rings
from kindredbush.seen import seen_grove
from kindredbush.standings import Standing, rings_between
from kindredbush.words import is_tuple_of


def flat_rings(ladder, bag, roots, one, other):
    """The list of the flat rings, by their first flat places."""
    ground = Ground(ladder, bag, roots)
    return rings_between(Standing(rows_of(ground, one)), Standing(rows_of(ground, other)))


def matched(ladder, f, g):
    """A pair of matched flat groves that are seen as two groves."""
    check_alike(f, g)
    ground = Ground(ladder, f.bag(), f.roots())
    one = Standing(f.rows())
    other = Standing(g.rows())
    # The adapters of one arrow after another are put in, those of earlier arrows being joints for the later ones.
    for number in range(len(ladder.arrows())):
        side = side_of(ladder, number)
        pairs = shared_adapters(one, other, through(ground, one, side), through(ground, other, side))
        one, other = (with_adapters(one, number, [pair[0] for pair in pairs]),
                      with_adapters(other, number, [pair[1] for pair in pairs]))
    return (flat_of(ground, one.holders()), flat_of(ground, other.holders()))


def through(ground, standing, side):
    """The list of what stands through the arrow that begins on a side, which is a list of knots."""
    return [holder for place, holder in standing.rows()
            if ground.home(holder) in side and ground.knot(place) not in side]


def shared_adapters(one, other, of_one, of_other):
    """The pairs of what gets the same adapter in two standings, from what stands through the arrow in each.

    What stands through it in both keeps its adapter. Otherwise the adapter goes to the next
    one in the ring that needs it in the other standing, so that the steps between are cut out.
    """
    pairs = []
    for holder in of_one:
        taker = holder
        while taker not in of_other:
            taker = one.holder(other.spot(taker))
        pairs.append((holder, taker))
    return pairs


def with_adapters(standing, number, below):
    """The standing in which the adapters of an arrow have come between some holders, in order, and their places."""
    holders = standing.holders()
    for at, holder in enumerate(below):
        adapter = (number, at)
        holders[standing.spot(holder)] = adapter
        holders[(adapter, 0)] = holder
    return Standing(list(holders.items()))


def judge_matched(ladder, f, g, value):
    """Whether a value, which may be anything, is a pair of matched flat groves that are seen as two groves."""
    check_alike(f, g)
    bag, roots = f.bag(), f.roots()
    if not is_tuple_of(value, 2) or not all([is_flat(ladder, bag, roots, flat) for flat in value]):
        return False
    one, other = value
    if seen_grove(ladder, bag, roots, one) != f or seen_grove(ladder, bag, roots, other) != g:
        return False
    many = len(rings(f, g)) + len(Ground(ladder, bag, roots).adapters())
    return len(flat_rings(ladder, bag, roots, one, other)) == many


def flat_way(ladder, bag, roots, one, other):
    """A list of flat deeds that leads from one flat grove to another one for the fewest coins."""
    ground = Ground(ladder, bag, roots)
    here = Standing(rows_of(ground, one))
    goal = Standing(rows_of(ground, other))
    found = []
    wrong = wrong_place(here, goal)
    while wrong is not None:
        deed = flat_deed_at(here, goal, wrong)
        found.append(deed)
        here = here.after(deed)
        wrong = wrong_place(here, goal)
    return found


def wrong_place(here, goal):
    """A wrong place with right places above it alone, or None if all are right."""
    for place, holder in here.rows():
        if goal.spot(holder) != place:
            return highest_wrong(here, goal, place)
    return None


def highest_wrong(here, goal, place):
    """The highest wrong place that is a wrong place itself or above it."""
    highest = place
    owner = place[0]
    while owner != "root":
        spot = here.spot(owner)
        if goal.spot(owner) != spot:
            highest = spot
        owner = spot[0]
    return highest


def flat_deed_at(here, goal, a):
    """A flat deed that makes as many rings more as it costs, by a wrong place with right places above it alone."""
    b = here.spot(goal.holder(a))
    if here.is_apart(a, b):
        return ("hang", a, b)
    last = last_met(here, goal, a, b)
    d = goal.spot(last)
    p = here.spot(last)
    if p == a and here.is_above(b, d):
        return ("stretch", a, b, b, d)
    if p == a:
        return ("stretch", a, b, d, d)
    if here.is_above(p, b) and here.is_above(b, d):
        return ("stretch", a, p, b, d)
    return ("hang", p, d)


def last_met(here, goal, a, b):
    """The last one that hangs here at a and not at b of those met upwards in the goal from what stands here at a."""
    found = here.holder(a)
    owner = goal.spot(found)[0]
    while owner != "root":
        spot = here.spot(owner)
        if here.is_stretch(a, spot) and not here.is_stretch(b, spot):
            found = owner
        owner = goal.spot(owner)[0]
    return found
