"""Rows and quotients taken apart."""

from fractionparts.errors import Nought
from fractionparts.quotients import refuse_no_quotient
from fractionparts.rows import divided, rate, refuse_no_row, times
from fractionparts.sharing import ONE, inverse, led, minus, shared_row


def refuse_no_rows(told):
    """Raise NoRow where one of the told rows is none."""
    for row in told:
        refuse_no_row(row)


def parts_by_power(row):
    """The pairs (part, power) of a row that isn't nought: for each power all that it holds just so many times."""
    found = []
    # Further holds each part once less than the row does; of the row, present holds each part once.
    further = shared_row(row, rate(row))
    present = divided(led(row), further)[0]
    power = 1
    while len(present) > 1:
        beyond = shared_row(present, further)
        part = divided(present, beyond)[0]
        if len(part) > 1:
            found.append((part, power))
        further = divided(further, beyond)[0]
        present = beyond
        power += 1
    return found


def cut(part, row):
    """What of a part divides a row, and then what shares nothing with it; numbers are left out."""
    inside = shared_row(part, row)
    outside = divided(part, inside)[0]
    return [half for half in [inside, outside] if len(half) > 1]


def parts_of(row, told):
    """The parts of a row that isn't nought, by told rows."""
    found = parts_by_power(row)
    for other in told:
        # Cut in place, with what divides the told row before what doesn't, the parts stay in their order.
        found = [(half, power) for part, power in found for half in cut(part, other)]
    return found


def parts(row, told):
    """The list of pairs (part, power): the parts of a row by told rows."""
    refuse_no_row(row)
    refuse_no_rows(told)
    if not row:
        raise Nought("the parts of nought were asked")
    return parts_of(row, told)


def to_power(row, power):
    """The product of a row taken so many times."""
    product = ONE
    for _ in range(power):
        product = times(product, row)
    return product


def split_off(top, bottom, part, power):
    """The tuple (pieces, top, bottom): the pieces of top by bottom that are of one part, and what they leave."""
    others = divided(bottom, to_power(part, power))[0]
    back = inverse(others, part)
    backwards = []
    for left in range(power, 0, -1):
        # The only row shorter than the part that, times the others, leaves by the part what top leaves.
        piece = divided(times(divided(top, part)[1], back), part)[1]
        top = divided(minus(top, times(piece, others)), part)[0]
        if piece:
            backwards.append((piece, part, left))
    return backwards[::-1], top, others


def apart(one, told):
    """The pair (whole, pieces) of a quotient by told rows, the pieces being tuples (top, part, power)."""
    refuse_no_quotient(one)
    refuse_no_rows(told)
    bottom = one[1]
    whole, top = divided(one[0], bottom)
    found = []
    for part, power in parts_of(bottom, told):
        pieces, top, bottom = split_off(top, bottom, part, power)
        found.extend(pieces)
    return whole, found
