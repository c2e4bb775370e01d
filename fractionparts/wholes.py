"""Lists of whole numbers, which stand for rows where a number that multiplies the whole row doesn't matter."""

from math import gcd

# Room above the least that is safe: a search that begins with too few bits has to begin again.
SPARE_BITS = 32


def shared_divisor(tops):
    """The greatest whole number that divides each of some whole numbers."""
    shared = 0
    for top in tops:
        shared = gcd(shared, top)
    return shared


def shortened(tops):
    """Whole numbers, not all of them nought, without the divisor that they all share."""
    shared = shared_divisor(tops)
    return [top // shared for top in tops]


def without_last(things, nought):
    """A list without the noughts behind the rest of it."""
    length = len(things)
    while length > 0 and things[length - 1] == nought:
        length -= 1
    return things[:length]


def least_factors(one, other):
    """The least pair (factor, often) with factor * one = often * other, of two whole numbers, the other not nought."""
    shared = gcd(one, other)
    return other // shared, one // shared


def taken_away(one, factor, other, often, start):
    """The list factor * one less often * other, the other one moved up by start places."""
    rest = [top * factor for top in one] + [0] * (start + len(other) - len(one))
    for place, top in enumerate(other):
        rest[start + place] -= top * often
    return rest


def divides(one, other):
    """Whether the other list is the one multiplied by a list of whole numbers."""
    rest = other
    while len(rest) >= len(one):
        often, left = divmod(rest[-1], one[-1])
        if left != 0:
            return False
        rest = without_last(taken_away(rest, 1, one, often, len(rest) - len(one)), 0)
    return not rest


def value_at(tops, bits):
    """What the tops give where 2 to the power of bits is put for the letter."""
    value = 0
    for top in reversed(tops):
        value = (value << bits) + top
    return value


def tops_of_value(value, bits):
    """The tops whose value_at is a number from 1 on, none of them beyond half of 2 to the power of bits."""
    full = 1 << bits
    found = []
    while value > 0:
        top = value & (full - 1)
        if top > full // 2:
            top -= full
        found.append(top)
        value = (value - top) >> bits
    return found


def shared_tops(one, other):
    """The longest list that divides two lists, its last number above nought.

    Neither list has a divisor that all of its numbers share. What divides both lists divides both of their values, so
    it is sought in what these share: whole numbers are far quicker to search than lists.
    """
    # Call 2 to the power of bits V. No number of the lists reaches V by 2 less 1, so whatever divides a list and isn't
    # a number is worth more than V by 2 at V. If found divides both lists, it is the longest: what it lacked would
    # divide the number by which it was shortened, and that is V by 2 at most. And with bits enough it divides both, as
    # besides their longest list the values share no more than a divisor of a number that doesn't hang on V.
    bits = max([abs(top) for top in [*one, *other]]).bit_length() + SPARE_BITS
    while True:
        found = shortened(tops_of_value(gcd(value_at(one, bits), value_at(other, bits)), bits))
        if divides(found, one) and divides(found, other):
            return found
        bits = 2 * bits
