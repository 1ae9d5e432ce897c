"""Joints, bags of them, and the places that bags and roots have."""

from kindredbush.errors import BadBag, UnknownName
from kindredbush.words import is_list, is_number, is_tuple_of, is_word


class Bag:
    """Joints with different names over a table."""

    def __init__(self, table, joints):
        path = wrong_bag_part(table, joints)
        if path is not None:
            raise BadBag(path)
        self._table = table
        self._joints = tuple(joints)
        self._by_name = {joint[0]: joint for joint in joints}

    def table(self):
        """The table over which the bag is."""
        return self._table

    def joints(self):
        """The list of the joints."""
        return list(self._joints)

    def names(self):
        """The list of the names of the joints."""
        return [joint[0] for joint in self._joints]

    def has_name(self, value):
        """Whether a value, which may be anything, is the name of a joint."""
        return isinstance(value, str) and value in self._by_name

    def stem(self, name):
        """The stem colour of the joint with a name."""
        return self._joint(name)[1]

    def branches(self, name):
        """The tuple of the colours of the branches of the joint with a name."""
        return self._joint(name)[2]

    def _joint(self, name):
        """The joint with a name, which may be anything."""
        if not self.has_name(name):
            raise UnknownName(name)
        return self._by_name[name]

    def __eq__(self, other):
        return isinstance(other, Bag) and self._table == other._table and self._joints == other._joints


def wrong_bag_part(table, joints):
    """The path of the first wrong part of what should be joints of a bag over a table, or None."""
    if not is_list(joints):
        return ()
    met = {}
    for number, joint in enumerate(joints):
        path = wrong_joint_part(table, joint, met)
        if path is not None:
            return (number,) + path
        met[joint[0]] = True
    return None


def wrong_joint_part(table, joint, met):
    """The path within a joint of its first wrong part, or None; its name must not be one of those met."""
    if not is_tuple_of(joint, 3):
        return ()
    name, stem, branches = joint
    if not is_word(name) or name == "root" or name in met:
        return (0,)
    if stem not in table.stems():
        return (1,)
    if not isinstance(branches, tuple):
        return (2,)
    at = wrong_colour(table, branches)
    if at is not None:
        return (2, at)
    return None


def wrong_colour(table, colours):
    """The number of the first member of a list that is no place colour, or None."""
    places = table.places()
    for number, colour in enumerate(colours):
        if colour not in places:
            return number
    return None


def wrong_roots_part(bag, roots):
    """The path of the first wrong part of what should be roots of a grove or an assembly, or None."""
    if not is_list(roots):
        return (0,)
    at = wrong_colour(bag.table(), roots)
    if at is not None:
        return (0, at)
    return None


def places_of(bag, roots):
    """The list of the places of a bag and roots, in order."""
    places = [("root", number) for number in range(len(roots))]
    for joint in bag.joints():
        places.extend([(joint[0], number) for number in range(len(joint[2]))])
    return places


def is_place(bag, roots, value):
    """Whether a value, which may be anything, is a place of a bag and roots."""
    if not is_tuple_of(value, 2) or not is_number(value[1]):
        return False
    owner, number = value
    if owner == "root":
        return number < len(roots)
    return bag.has_name(owner) and number < len(bag.branches(owner))


def check_place(bag, roots, value):
    """Raise UnknownName if a value, which may be anything, is no place of a bag and roots."""
    if not is_place(bag, roots, value):
        raise UnknownName(value)


def colour_of(bag, roots, place):
    """The colour of a place."""
    check_place(bag, roots, place)
    owner, number = place
    if owner == "root":
        return roots[number]
    return bag.branches(owner)[number]


def fits_there(bag, roots, name, place):
    """Whether the joint with a name fits a place."""
    stem = bag.stem(name)
    return bag.table().is_fit(stem, colour_of(bag, roots, place))


def taken_out(joints, roots, number):
    """The joints and the roots that are left if the joint with a number is taken out at the first root."""
    return (joints[:number] + joints[number + 1:], list(joints[number][2]) + list(roots[1:]))
