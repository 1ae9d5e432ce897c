"""Assemblies: joints at places that they fit, perhaps in loops."""

from kindredbush.bags import check_place, is_place, places_of, wrong_roots_part, fits_there
from kindredbush.errors import BadAssembly
from kindredbush.groves import Grove
from kindredbush.words import check_known, is_list, is_tuple_of


class Assembly:
    """Each joint of a bag at a place, and one joint at each place."""

    def __init__(self, bag, roots, rows):
        path = wrong_assembly_part(bag, roots, rows)
        if path is not None:
            raise BadAssembly(path)
        joints = {place: name for place, name in rows}
        self._bag = bag
        self._roots = tuple(roots)
        self._rows = tuple([(place, joints[place]) for place in places_of(bag, roots)])
        self._joint_at = joints
        self._place_of = {name: place for place, name in rows}

    def bag(self):
        """The bag."""
        return self._bag

    def roots(self):
        """The tuple of the colours of the roots."""
        return self._roots

    def rows(self):
        """The list of the pairs (place, name of the joint there), in the order of places."""
        return list(self._rows)

    def joint(self, place):
        """The name of the joint that stands at a place."""
        check_place(self._bag, self._roots, place)
        return self._joint_at[place]

    def place(self, name):
        """The place at which the joint with a name stands."""
        check_known(name, self._bag.names())
        return self._place_of[name]

    def loops(self):
        """The list of the loops, by the order of their first places."""
        found = []
        met = {}
        for place, name in self._rows:
            if place not in met:
                loop = loop_from(self._place_of, place)
                for other in loop:
                    met[other] = True
                if loop:
                    found.append(loop)
        return found

    def grove(self):
        """The grove with the same joints at the same places, or None if there is a loop."""
        if self.loops():
            return None
        return grove_of(self._bag, self._roots, self._joint_at)

    def __eq__(self, other):
        return (isinstance(other, Assembly) and self._bag == other._bag
                and self._roots == other._roots and self._rows == other._rows)


def wrong_assembly_part(bag, roots, rows):
    """The path of the first wrong part of what should be an assembly, or None."""
    path = wrong_roots_part(bag, roots)
    if path is not None:
        return path
    if not is_list(rows):
        return (1,)
    joints = {}
    spots = {}
    for number, row in enumerate(rows):
        if not is_tuple_of(row, 2):
            return (1, number)
        place, name = row
        if not is_place(bag, roots, place) or place in joints:
            return (1, number, 0)
        if not bag.has_name(name) or name in spots or not fits_there(bag, roots, name, place):
            return (1, number, 1)
        joints[place] = name
        spots[name] = place
    if len(joints) < len(places_of(bag, roots)) or len(spots) < len(bag.names()):
        return ()
    return None


def loop_from(place_of, place):
    """The loop that begins with a place, or () if the place is in none."""
    trail = [place]
    owner = place[0]
    while owner != "root" and place_of[owner] not in trail:
        trail.append(place_of[owner])
        owner = trail[-1][0]
    if owner == "root" or place_of[owner] != place:
        return ()
    # One came from each place to the one of its owner, but a loop goes the other way.
    return (place,) + tuple(trail[:0:-1])


def grove_of(bag, roots, joint_at):
    """The grove with these joints at the places, which are in no loop."""
    return Grove(bag, roots, [bush_at(bag, joint_at, ("root", number)) for number in range(len(roots))])


def bush_at(bag, joint_at, place):
    """The bush at a place of an assembly that has no loop."""
    name = joint_at[place]
    branches = [bush_at(bag, joint_at, (name, number)) for number in range(len(bag.branches(name)))]
    return (name,) + tuple(branches)


def assembly_of(grove):
    """The assembly with the same joints at the same places as a grove."""
    return Assembly(grove.bag(), grove.roots(), grove.rows())
