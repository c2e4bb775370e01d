"""Rows and quotients for the tests, and reckoning with rows that makes no use of the program."""

import itertools
import random
from fractions import Fraction

HUGE = 10 ** 300
ONE = ((1, 1),)
LETTER = ((0, 1), (1, 1))
NOUGHT = ((), ONE)


def row(*numbers):
    """The row of whole numbers and fractions of Python's own, without the noughts behind them."""
    values = [Fraction(number) for number in numbers]
    while values and values[-1] == 0:
        values.pop()
    return tuple([(value.numerator, value.denominator) for value in values])


def numbers_of(one):
    return [Fraction(top, bottom) for top, bottom in one]


def at(one, value):
    """The number that a row gives for a value of its letter."""
    return sum([number * value ** place for place, number in enumerate(numbers_of(one))], Fraction(0))


def summed(*rows):
    return row(*[sum(numbers) for numbers in itertools.zip_longest(*map(numbers_of, rows), fillvalue=Fraction(0))])


def scaled(number, one):
    return row(*[number * part for part in numbers_of(one)])


def less(one, other):
    return summed(one, scaled(-1, other))


def product(*rows):
    found = [Fraction(1)]
    for one in rows:
        sums = [Fraction(0)] * max(len(found) + len(one) - 1, 0)
        for place, number in enumerate(found):
            for step, other in enumerate(numbers_of(one)):
                sums[place + step] += number * other
        found = sums
    return row(*found)


def raised(one, power):
    return product(*[one] * power)


def parted(one, other):
    """The pair (whole, rest)."""
    rest, taken = numbers_of(one), numbers_of(other)
    whole = [Fraction(0)] * max(len(rest) - len(taken) + 1, 0)
    for place in reversed(range(len(whole))):
        whole[place] = rest[place + len(taken) - 1] / taken[-1]
        for step, number in enumerate(taken):
            rest[place + step] -= whole[place] * number
    return row(*whole), row(*rest)


def changed(one):
    """The rate of a row."""
    return row(*[place * number for place, number in enumerate(numbers_of(one))][1:])


def in_common(one, other):
    """The longest led row that divides both, found by the oldest of ways."""
    while other:
        one, other = other, parted(one, other)[1]
        if other:
            other = scaled(1 / numbers_of(other)[-1], other)
    return scaled(1 / numbers_of(one)[-1], one) if one else ()


def apart_by(one, other):
    """Whether two rows share nothing."""
    return in_common(one, other) == ONE


def goes_into(one, other):
    """Whether the one row divides the other; it isn't nought."""
    return parted(other, one)[1] == ()


def together(*pairs):
    """Top and bottom, not shortened, of pairs (top, bottom) put together."""
    top, bottom = (), ONE
    for more, under in pairs:
        top, bottom = summed(product(top, under), product(more, bottom)), product(bottom, under)
    return top, bottom


def rate_pair(one):
    """Top and bottom, not shortened, of the rate of a pair (top, bottom)."""
    top, bottom = one
    return less(product(changed(top), bottom), product(top, changed(bottom))), product(bottom, bottom)


def equal(one, other):
    """Whether two pairs (top, bottom) are the same fraction of rows."""
    return product(one[0], other[1]) == product(other[0], one[1])


def pair_of(top, bottom):
    """The quotient that top by bottom is."""
    shared = in_common(top, bottom)
    last = numbers_of(bottom)[-1]
    return scaled(1 / last, parted(top, shared)[0]), scaled(1 / last, parted(bottom, shared)[0])


def small_rows():
    """Every row of up to three of these numbers."""
    numbers = [Fraction(0), Fraction(1), Fraction(-2), Fraction(1, 2), Fraction(-3, 4)]
    choices = [choice for length in range(4) for choice in itertools.product(numbers, repeat=length)]
    return [row(*choice) for choice in choices if not choice or choice[-1] != 0]


SMALL = small_rows()

LARGE = [
    row(HUGE, 0, 0, -HUGE), row(Fraction(1, HUGE), 1), row(*range(1, 30)), row(*[0] * 40, Fraction(3, 7)),
    row(*[Fraction(1, k) for k in range(1, 15)]), row(Fraction(-HUGE, 7)), row(6, -12, 0, 18),
    row(*[Fraction(k * k - 50, k + 1) for k in range(1, 9)]),
]


class Maker:
    """Makes rows and quotients that look like chance and are the same at each run."""

    def __init__(self, seed):
        self.source = random.Random(seed)

    def number(self, most=9, under=4):
        return Fraction(self.source.randint(-most, most), self.source.randint(1, under))

    def row(self, length, most=9, under=4):
        """A row of just this length."""
        last = [self.number(most, under) or Fraction(1)] if length else []
        return row(*[self.number(most, under) for _ in range(length - 1)], *last)

    def led(self, length):
        return row(*[self.number() for _ in range(length - 1)], 1)

    def below(self, length):
        """A row shorter than this, nought among them."""
        return self.row(self.source.randrange(length))

    def many_powers(self, rows, most):
        """The product of rows, each to some power from 1 on."""
        return product(*[raised(one, self.source.randint(1, most)) for one in rows])

    def quotient(self, most):
        """A quotient whose bottom has some parts, to powers up to the most."""
        factors = [self.led(self.source.randint(2, 3)) for _ in range(self.source.randint(0, 3))]
        bottom = self.many_powers(factors, most)
        return pair_of(self.below(len(bottom) + 3), bottom)
