"""What two rows have in common."""

from fractionparts.numbers import part_of
from fractionparts.rows import divided, over_one_bottom, plus, refuse_no_row, row_over, times
from fractionparts.wholes import least_factors, shared_divisor, shared_tops, shortened, taken_away, without_last

ONE = ((1, 1),)
MINUS_ONE = ((-1, 1),)


def minus(one, other):
    """One row less the other."""
    return plus(one, times(MINUS_ONE, other))


def led(row):
    """A row divided by its last fraction; nought stays nought."""
    return tuple([part_of(part, row[-1]) for part in row])


def whole_tops(row):
    """The whole numbers, without a divisor that they all share, that a row is a number times; it isn't nought."""
    tops, _ = over_one_bottom(row)
    return shortened(tops)


def shared_row(one, other):
    """The longest led row that divides two rows, or nought where both are nought."""
    if not one or not other:
        return led(one or other)
    tops = shared_tops(whole_tops(one), whole_tops(other))
    return row_over(tops, tops[-1])


def next_pair(one, other):
    """The pair (rest, often) behind two pairs (tops, often) of the search in inverse."""
    tops, often = one
    taken, taken_often = other
    while len(tops) >= len(taken):
        factor, many = least_factors(tops[-1], taken[-1])
        start = len(tops) - len(taken)
        tops = without_last(taken_away(tops, factor, taken, many, start), 0)
        often = taken_away(often, factor, taken_often, many, start)
    # Without this the numbers would grow far beyond what they have to be.
    shared = shared_divisor([*tops, *often])
    return [top // shared for top in tops], [top // shared for top in often]


def inverse(one, other):
    """The row, shorter than the other, that times the one leaves 1 by the other; they share nothing.

    Nought, where the other is a number.
    """
    if len(other) == 1:
        return ()
    tops, bottom = over_one_bottom(divided(one, other)[1])
    # In each pair (tops, often), often times the first tops of now leaves tops by the other.
    before, now = (whole_tops(other), []), (tops, [1])
    while len(now[0]) > 1:
        before, now = now, next_pair(before, now)
    return row_over([top * bottom for top in now[1]], now[0][0])


def common(one, other):
    """The tuple (row, first, second): what two rows have in common, and first * one + second * other is it."""
    refuse_no_row(one)
    refuse_no_row(other)
    row = shared_row(one, other)
    if not row:
        return (), (), ()
    if not other:
        return row, divided(row, one)[0], ()
    one_part = divided(one, row)[0]
    other_part = divided(other, row)[0]
    first = inverse(one_part, other_part)
    second = divided(minus(ONE, times(first, one_part)), other_part)[0]
    return row, first, second
