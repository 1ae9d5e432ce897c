"""How many assemblies and how many groves there are."""

from math import factorial

from kindredbush.bags import taken_out
from kindredbush.ladders import trimmed
from kindredbush.matrices import determinant
from kindredbush.peelings import ladder_of
from kindredbush.scales import Scale


def scale_of(bag):
    """A scale for the table of a bag; what is counted does not depend on its ladder."""
    # It is ladder_of that raises BadTable, with a bar of a bad table.
    return Scale(trimmed(ladder_of(bag.table())))


def count_assemblies(bag, roots):
    """The number of the assemblies of a bag and roots."""
    return assemblies_by(scale_of(bag), bag.joints(), roots)


def assemblies_by(scale, joints, roots):
    """The number of the assemblies of joints and roots."""
    numbers = scale.numbers(joints, roots)
    if numbers is None:
        return 0
    many, held = numbers
    return product_of_factorials(list(held.values())) // product_of_factorials(many)


def product_of_factorials(numbers):
    """The product of the factorials of some numbers."""
    product = 1
    for number in numbers:
        product = product * factorial(number)
    return product


def count_groves(bag, roots):
    """The number of the groves of a bag and roots."""
    return groves_by(scale_of(bag), bag.joints(), roots)


def groves_by(scale, joints, roots):
    """The number of the groves of joints and roots."""
    numbers = scale.numbers(joints, roots)
    if numbers is None:
        return 0
    many, held = numbers
    knots, rows = scale.matrix(joints, numbers)
    product = product_of_factorials([held[knot] - 1 for knot in knots])
    return product * determinant(rows) // product_of_factorials(many)


def count_beginning(bag, roots, names):
    """The number of the groves whose row begins with some strings."""
    scale = scale_of(bag)
    joints = bag.joints()
    left = roots
    for name in names:
        number = number_in(joints, name)
        if number is None or not fits_first(bag, joints[number], left):
            return 0
        joints, left = taken_out(joints, left, number)
    return groves_by(scale, joints, left)


def number_in(joints, name):
    """The number of the joint with a name, or None."""
    for number, joint in enumerate(joints):
        if joint[0] == name:
            return number
    return None


def fits_first(bag, joint, roots):
    """Whether there are roots, and a joint fits the first one."""
    return len(roots) > 0 and bag.table().is_fit(joint[1], roots[0])


def first_joints(bag, roots):
    """The list of the pairs of a joint that fits the first root, and how many groves have it there."""
    scale = scale_of(bag)
    joints = bag.joints()
    found = []
    for number, joint in enumerate(joints):
        if fits_first(bag, joint, roots):
            others, left = taken_out(joints, roots, number)
            found.append((joint[0], groves_by(scale, others, left)))
    return found
