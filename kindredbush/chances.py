"""How often one colour stands in another, on the average of all assemblies."""

from kindredbush.bags import check_place, colour_of
from kindredbush.counting import assemblies_by, groves_by, scale_of
from kindredbush.ratios import ratio, ratio_product, ratio_sum
from kindredbush.words import check_known


def chance_of_stem(bag, roots, place, stem):
    """The chance that a place holds a joint with a stem colour, or None if there is no assembly."""
    scale = scale_of(bag)
    check_place(bag, roots, place)
    check_known(stem, bag.table().stems())
    numbers = scale.numbers(bag.joints(), roots)
    if numbers is None:
        return None
    return chance_at(scale, bag, numbers, colour_of(bag, roots, place), stem)


def chance_of_joint(bag, roots, place, name):
    """The chance that a certain joint stands at a place, or None if there is no assembly."""
    scale = scale_of(bag)
    check_place(bag, roots, place)
    stem = bag.stem(name)
    numbers = scale.numbers(bag.joints(), roots)
    if numbers is None:
        return None
    chance = chance_at(scale, bag, numbers, colour_of(bag, roots, place), stem)
    return ratio_product(chance, (1, len(joints_with(bag, stem))))


def joints_with(bag, stem):
    """The list of the joints with a stem colour."""
    return [joint for joint in bag.joints() if joint[1] == stem]


def chance_at(scale, bag, numbers, colour, stem):
    """The chance of a stem colour at a place with a colour, by the numbers of the scale."""
    many, held = numbers
    joints = joints_with(bag, stem)
    way = scale.way(stem, colour)
    if not joints or way is None or any([many[number] == 0 for number in way]):
        return (0, 1)
    chance = ratio(len(joints), held[scale.home(stem)])
    for number in way:
        chance = ratio_product(chance, ratio(many[number], held[scale.end(number)]))
    return chance


def mean(bag, roots, one, other):
    """The mean of two stem colours, or None if there is no assembly or no joint with the first one."""
    scale = scale_of(bag)
    for stem in (one, other):
        check_known(stem, bag.table().stems())
    numbers = scale.numbers(bag.joints(), roots)
    if numbers is None or not joints_with(bag, one):
        return None
    return mean_by(scale, bag, numbers, one, other)


def mean_by(scale, bag, numbers, one, other):
    """The mean of two stem colours, of which some joint has the first one, by the numbers of the scale."""
    joints = joints_with(bag, one)
    total = (0, 1)
    for name, stem, branches in joints:
        for colour in branches:
            total = ratio_sum(total, chance_at(scale, bag, numbers, colour, other))
    return ratio_product(total, (1, len(joints)))


def means(bag, roots):
    """The stem colours that joints have, and the rows of their means; or None if there is no assembly."""
    scale = scale_of(bag)
    numbers = scale.numbers(bag.joints(), roots)
    if numbers is None:
        return None
    stems = [stem for stem in bag.table().stems() if joints_with(bag, stem)]
    return (stems, [[mean_by(scale, bag, numbers, one, other) for other in stems] for one in stems])


def share(bag, roots):
    """The number of groves divided by the number of assemblies, or None if there is no assembly."""
    scale = scale_of(bag)
    many = assemblies_by(scale, bag.joints(), roots)
    if many == 0:
        return None
    return ratio(groves_by(scale, bag.joints(), roots), many)
