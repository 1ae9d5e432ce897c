"""Determinants, and the flat matrices of bags and roots."""

from math import lcm

from kindredbush.ratios import ratio
from kindredbush.scales import Scale


def determinant(rows):
    """The determinant of a list of lists of integers."""
    left = list(rows)
    sign = 1
    before = 1
    while left:
        number = first_begun(left)
        if number is None:
            return 0
        # A row goes to the front past each of the rows ahead of it.
        if number % 2 == 1:
            sign = -sign
        top = left[number]
        left = [cleared(top, row, before) for row in left[:number] + left[number + 1:]]
        before = top[0]
    return sign * before


def first_begun(rows):
    """The number of the first row that does not begin with 0, or None."""
    for number, row in enumerate(rows):
        if row[0] != 0:
            return number
    return None


def cleared(top, row, before):
    """What is left of a row, behind its first entry, if the top row is used to make this one 0.

    All entries are determinants of parts of the matrix, so they are divided by the top row's
    first entry of the time before without a rest.
    """
    return [(top[0] * lower - row[0] * upper) // before for upper, lower in zip(top[1:], row[1:])]


def fraction_determinant(rows):
    """The determinant of a list of lists of fractions, as a fraction."""
    below = 1
    whole = []
    for row in rows:
        common = 1
        for entry in row:
            common = lcm(common, entry[1])
        below = below * common
        whole.append([entry[0] * (common // entry[1]) for entry in row])
    return ratio(determinant(whole), below)


def flat_matrix(ladder, bag, roots):
    """The knots and the rows of the flat matrix, or None if there is no assembly."""
    scale = Scale(ladder)
    numbers = scale.numbers(bag.joints(), roots)
    if numbers is None:
        return None
    return scale.matrix(bag.joints(), numbers)
