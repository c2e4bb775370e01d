"""Quotients grown: what they are the rate of, and what bars it."""

from fractionparts.numbers import part_of
from fractionparts.quotients import quotient, refuse_no_quotient
from fractionparts.rows import divided, plus, rate, times
from fractionparts.sharing import MINUS_ONE, inverse, minus, shared_row


def grown_row(row):
    """The row, nought or with nought at place 0, that has a row as its rate."""
    if not row:
        return ()
    return ((0, 1), *[part_of(part, (place + 1, 1)) for place, part in enumerate(row)])


def grown_once(left, once, further):
    """The tuple (top, left, fewer): the rate of top by further, and the new left by once * fewer, are left together.

    The left that is handed in is that by once * further. Once holds each part of further a single time; fewer holds
    each part of further once less.
    """
    fewer = shared_row(further, rate(further))
    present = divided(further, fewer)[0]
    others = divided(once, present)[0]
    # Over once * further, the rate of top by further has (rate of top) * others * present - top * against. All but a
    # multiple of present has to come of the latter.
    against = times(others, divided(rate(further), fewer)[0])
    top = times(MINUS_ONE, divided(times(left, inverse(against, present)), present)[1])
    rest = divided(plus(left, times(top, against)), present)[0]
    return top, minus(rest, times(rate(top), others)), fewer


def growth(one):
    """("growth", grown) for the rate of grown, or ("barred", grown, rest) for the rate of grown and rest together."""
    refuse_no_quotient(one)
    whole, left = divided(one[0], one[1])
    bottom = shared_row(one[1], rate(one[1]))
    once = divided(one[1], bottom)[0]
    top = times(grown_row(whole), bottom)
    further = bottom
    while len(further) > 1:
        more, left, fewer = grown_once(left, once, further)
        top = plus(top, times(more, divided(bottom, further)[0]))
        further = fewer
    grown = quotient(top, bottom)
    if not left:
        return "growth", grown
    return "barred", grown, quotient(left, once)
