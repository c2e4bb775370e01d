"""Quotients: tuples (top, bottom) of two rows that share nothing, the bottom led."""

from fractionparts.errors import NoQuotient, Nought
from fractionparts.numbers import part_of
from fractionparts.rows import divided, is_row, plus, rate, refuse_no_row, times
from fractionparts.sharing import ONE, led, minus, shared_row


def is_quotient(thing):
    """Whether anything at all is a quotient."""
    # The exact kind is asked, so that no code of the thing's own is run.
    if type(thing) is not tuple or len(thing) != 2:
        return False
    top, bottom = thing
    if not is_row(top) or not is_row(bottom):
        return False
    return bottom[-1:] == ONE and shared_row(top, bottom) == ONE


def refuse_no_quotient(thing):
    """Raise NoQuotient for what is no quotient."""
    # The thing isn't shown: its own words could fail, and very long numbers can't be written out.
    if not is_quotient(thing):
        raise NoQuotient("something handed in as a quotient is none")


def quotient(top, bottom):
    """The quotient that top by bottom is."""
    refuse_no_row(top)
    refuse_no_row(bottom)
    if not bottom:
        raise Nought("a row would be divided by nought")
    shared = shared_row(top, bottom)
    top_by_last = times(top, (part_of((1, 1), bottom[-1]),))
    return divided(top_by_last, shared)[0], divided(led(bottom), shared)[0]


def joined(one, other):
    """Two quotients together."""
    refuse_no_quotient(one)
    refuse_no_quotient(other)
    top, bottom = one
    other_top, other_bottom = other
    return quotient(plus(times(top, other_bottom), times(other_top, bottom)), times(bottom, other_bottom))


def rated(one):
    """The rate of a quotient."""
    refuse_no_quotient(one)
    top, bottom = one
    return quotient(minus(times(rate(top), bottom), times(top, rate(bottom))), times(bottom, bottom))
