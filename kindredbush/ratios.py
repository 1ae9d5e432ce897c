"""Fractions as pairs of two integers in lowest terms, the second one at least 1."""

from math import gcd


def ratio(a, b):
    """The fraction of two integers, of which the second one is at least 1."""
    common = gcd(a, b)
    return (a // common, b // common)


def ratio_sum(one, other):
    """The sum of two fractions."""
    return ratio(one[0] * other[1] + other[0] * one[1], one[1] * other[1])


def ratio_product(one, other):
    """The product of two fractions."""
    return ratio(one[0] * other[0], one[1] * other[1])
