"""Fractions: tuples (top, bottom) of whole numbers, bottom from 1 on, that share no divisor but 1."""

from math import gcd

from fractionparts.errors import Nought

ZERO = (0, 1)


def fraction(top, bottom):
    """The fraction that top by bottom is."""
    if bottom == 0:
        raise Nought("a number would be divided by nought")
    shared = gcd(top, bottom)
    if bottom < 0:
        shared = -shared
    return (top // shared, bottom // shared)


def is_fraction(thing):
    """Whether anything at all is a fraction."""
    # The exact kind is asked, so that no code of the thing's own is run, and True and False are no numbers.
    if type(thing) is not tuple or len(thing) != 2:
        return False
    top, bottom = thing
    if type(top) is not int or type(bottom) is not int:
        return False
    return bottom >= 1 and gcd(top, bottom) == 1


def sum_of(one, other):
    """Two fractions together."""
    return fraction(one[0] * other[1] + other[0] * one[1], one[1] * other[1])


def product_of(one, other):
    """Two fractions multiplied."""
    return fraction(one[0] * other[0], one[1] * other[1])


def part_of(one, other):
    """One fraction divided by the other."""
    return fraction(one[0] * other[1], one[1] * other[0])
