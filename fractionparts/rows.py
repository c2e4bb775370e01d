"""Rows: tuples of fractions, at place k how often a row has the letter's k-th power, the last one not nought."""

from math import lcm

from fractionparts.errors import NoRow, Nought
from fractionparts.numbers import ZERO, fraction, is_fraction, product_of, sum_of
from fractionparts.wholes import least_factors, taken_away, without_last


def is_row(thing):
    """Whether anything at all is a row."""
    # The exact kind is asked, so that no code of the thing's own is run.
    if type(thing) is not tuple:
        return False
    if not all([is_fraction(part) for part in thing]):
        return False
    return not thing or thing[-1] != ZERO


def refuse_no_row(thing):
    """Raise NoRow for what is no row."""
    # The thing isn't shown: its own words could fail, and very long numbers can't be written out.
    if not is_row(thing):
        raise NoRow("something handed in as a row is none")


def over_one_bottom(row):
    """The pair (tops, bottom): a list of whole numbers that give the row when each is divided by bottom."""
    bottom = 1
    for part in row:
        bottom = lcm(bottom, part[1])
    return [top * (bottom // under) for top, under in row], bottom


def row_over(tops, bottom):
    """The row of whole numbers that are each divided by bottom."""
    return tuple(without_last([fraction(top, bottom) for top in tops], ZERO))


def plus(one, other):
    """Two rows together."""
    refuse_no_row(one)
    refuse_no_row(other)
    shorter = min(len(one), len(other))
    sums = [sum_of(first, second) for first, second in zip(one, other)]
    return tuple(without_last([*sums, *one[shorter:], *other[shorter:]], ZERO))


def times(one, other):
    """Two rows multiplied."""
    refuse_no_row(one)
    refuse_no_row(other)
    if not one or not other:
        return ()
    # Whole numbers over one bottom spare a search for shared divisors at each of the many steps.
    first_tops, first_bottom = over_one_bottom(one)
    second_tops, second_bottom = over_one_bottom(other)
    tops = [0] * (len(one) + len(other) - 1)
    for place, first in enumerate(first_tops):
        for step, second in enumerate(second_tops):
            tops[place + step] += first * second
    return row_over(tops, first_bottom * second_bottom)


def divided(one, other):
    """The pair (whole, rest) with one = whole * other + rest, the rest shorter than the other."""
    refuse_no_row(one)
    refuse_no_row(other)
    if not other:
        raise Nought("a row would be divided by nought")
    rest, bottom = over_one_bottom(one)
    taken, taken_bottom = over_one_bottom(other)
    backwards = []
    while len(rest) >= len(taken):
        backwards.append(fraction(rest[-1] * taken_bottom, bottom * taken[-1]))
        # The least factor that keeps the numbers whole keeps them short, too.
        factor, often = least_factors(rest[-1], taken[-1])
        rest = taken_away(rest, factor, taken, often, len(rest) - len(taken))[:-1]
        bottom = bottom * factor
    return tuple(backwards[::-1]), row_over(rest, bottom)


def rate(row):
    """The rate of a row: at place k the fraction at place k + 1, k + 1 times."""
    refuse_no_row(row)
    return tuple([product_of((place, 1), part) for place, part in enumerate(row)][1:])
