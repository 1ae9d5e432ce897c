"""Whether joints can be put together, and how."""

from kindredbush.assemblies import grove_of
from kindredbush.bags import Bag, colour_of, taken_out
from kindredbush.barred import unbuilt_paper
from kindredbush.errors import Unbuilt
from kindredbush.flows import flows
from kindredbush.reaching import is_buildable, reached_in, unbalanced_in


def unbalanced_pieces(ladder, bag, roots):
    """The list of the pieces that are not balanced, each as the ascending tuple of its knots."""
    return unbalanced_in(ladder, bag, roots)


def reached_knots(ladder, bag, roots):
    """The ascending list of the reached knots."""
    return reached_in(ladder, bag, roots, flows(ladder, bag, roots))


def can_build(ladder, bag, roots):
    """Whether there is a grove."""
    return is_buildable(ladder, bag, roots)


def built(ladder, bag, roots):
    """A grove of a bag and roots."""
    paper = unbuilt_paper(ladder, bag, roots)
    if paper is not None:
        raise Unbuilt(paper[0], paper[1])
    joints = bag.joints()
    waiting = [("root", number) for number in range(len(roots))]
    holders = {}
    while waiting:
        number = first_good(ladder, bag, joints, [colour_of(bag, roots, place) for place in waiting])
        name = joints[number][0]
        holders[waiting[0]] = name
        waiting = [(name, at) for at in range(len(joints[number][2]))] + waiting[1:]
        joints = joints[:number] + joints[number + 1:]
    return grove_of(bag, roots, holders)


def first_good(ladder, bag, joints, roots):
    """The number of the first joint with which at the first root there is a grove of some joints of a bag, or None.

    There is one exactly if there is one of the other joints, with its branches in the place of this root.
    """
    for number, joint in enumerate(joints):
        if bag.table().is_fit(joint[1], roots[0]):
            others, further = taken_out(joints, roots, number)
            if is_buildable(ladder, Bag(bag.table(), others), further):
                return number
    return None
