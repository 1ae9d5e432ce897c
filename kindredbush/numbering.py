"""The numbers of groves, by the order of their rows."""

from kindredbush.assemblies import grove_of
from kindredbush.bags import taken_out
from kindredbush.counting import fits_first, groves_by, number_in, scale_of
from kindredbush.errors import TooGreat


def grove_at(bag, roots, number):
    """The grove of a bag and roots with a number."""
    found = groves_from(bag, roots, number=number, many=1)
    if not found:
        raise TooGreat()
    return found[0]


def number_of(grove):
    """The number of a grove."""
    bag = grove.bag()
    scale = scale_of(bag)
    joints = bag.joints()
    roots = grove.roots()
    before = 0
    for name in grove.walk():
        own = number_in(joints, name)
        for number in range(own):
            if fits_first(bag, joints[number], roots):
                before += groves_left(scale, joints, roots, number)
        joints, roots = taken_out(joints, roots, own)
    return before


def groves_left(scale, joints, roots, number):
    """How many groves have the joint with a number at the first root."""
    others, left = taken_out(joints, roots, number)
    return groves_by(scale, others, left)


def next_grove(grove):
    """The grove with the next number, or None if a grove is the last one."""
    found = groves_from(grove.bag(), grove.roots(), number=number_of(grove) + 1, many=1)
    if not found:
        return None
    return found[0]


def groves_from(bag, roots, *, number=0, many=10):
    """The list of so many groves from a number on, or of all that there are from there."""
    scale = scale_of(bag)
    found = []
    skipped = 0
    # Of what waits, rows that begin with certain names, the last one comes first.
    waiting = [([], bag.joints(), list(roots))]
    while waiting and len(found) < many:
        names, joints, left = waiting.pop()
        count = groves_by(scale, joints, left)
        if skipped + count <= number:
            skipped += count
        elif left:
            waiting.extend(begun(bag, names, joints, left)[::-1])
        else:
            found.append(grove_by_row(bag, roots, names))
            number += 1
            skipped += 1
    return found


def begun(bag, names, joints, roots):
    """The triples of names, joints and roots behind each joint that fits the first root, in the order of the bag."""
    found = []
    for number, joint in enumerate(joints):
        if fits_first(bag, joint, roots):
            others, left = taken_out(joints, roots, number)
            found.append((names + [joint[0]], others, left))
    return found


def grove_by_row(bag, roots, names):
    """The grove with a row."""
    waiting = [("root", number) for number in range(len(roots))]
    holders = {}
    for name in names:
        holders[waiting[0]] = name
        waiting = [(name, number) for number in range(len(bag.branches(name)))] + waiting[1:]
    return grove_of(bag, roots, holders)


def drawn_grove(bag, roots, number):
    """The grove with the rest of a number, divided by the number of all groves; or None if there is no grove."""
    count = groves_by(scale_of(bag), bag.joints(), roots)
    if count == 0:
        return None
    return grove_at(bag, roots, number % count)
