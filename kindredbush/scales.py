"""What is counted at the knots and along the arrows of a ladder, for joints and roots."""

from kindredbush.flows import excess_at, flows_between, sides_of


class Scale:
    """A ladder with what is needed again and again to count over it."""

    def __init__(self, ladder):
        self._ladder = ladder
        self._sides = tuple([tuple(side) for side in sides_of(ladder)])
        self._pieces = tuple([tuple(piece) for piece in ladder.pieces()])

    def numbers(self, joints, roots):
        """The pair of the flows and of the dict of the numbers n(u), or None if there is no assembly."""
        excess = excess_at(self._ladder, joints, roots)
        many = flows_between(self._sides, excess)
        if any([flow < 0 for flow in many]):
            return None
        if any([sum([excess[knot] for knot in piece]) != 0 for piece in self._pieces]):
            return None
        held = {knot: 0 for knot in self._ladder.knots()}
        for name, stem, branches in joints:
            held[self._ladder.stem_home(stem)] += 1
        for arrow, flow in zip(self._ladder.arrows(), many):
            held[arrow[1]] += flow
        return (many, held)

    def matrix(self, joints, numbers):
        """The knots and the rows of the flat matrix of joints, by what numbers has told of them."""
        many, held = numbers
        knots = [knot for knot in self._ladder.knots() if held[knot] > 0]
        entries = {(one, other): 0 for one in knots for other in knots}
        for knot in knots:
            entries[(knot, knot)] = held[knot]
        for name, stem, branches in joints:
            for colour in branches:
                entries[(self._ladder.stem_home(stem), self._ladder.place_home(colour))] -= 1
        for arrow, flow in zip(self._ladder.arrows(), many):
            if flow > 0:
                entries[(arrow[1], arrow[0])] -= flow
        return (knots, [[entries[(one, other)] for other in knots] for one in knots])

    def way(self, stem, colour):
        """The numbers of the arrows from the home of a stem to that of a place colour, or None."""
        return self._ladder.way(self._ladder.stem_home(stem), self._ladder.place_home(colour))

    def home(self, stem):
        """The home of a stem colour."""
        return self._ladder.stem_home(stem)

    def end(self, number):
        """The knot at which an arrow ends."""
        return self._ladder.arrows()[number][1]
