"""Point 4: what two rows have in common."""

import itertools
import unittest
from fractions import Fraction

from fractionparts.rows import is_row
from fractionparts.sharing import common
from tests.reckoning import (HUGE, LARGE, LETTER, ONE, SMALL, Maker, apart_by, goes_into, in_common, parted, product,
                             raised, row, scaled, summed)

HALF = Fraction(1, 2)

# Rows whose values share a large divisor at a power of two, though they themselves share nothing.
MISLEADING = [
    (row(-128, 210, -189, -315, -48), row(409, 142, 102, -35, -3)),
    (row(190, -243, 95, -231, -384), row(163, 90, -248, 292, -175)),
    (row(308, -687, -85, -351, 210), row(-39, -300, 297, 263, 159)),
    (row(-40, -15, 37, 59, 139, -20), row(129, -55, -8, -105, -27, 6)),
    (row(-23, 25, 0, -150, 98, -20), row(-1, 107, -53, 85, -21, -52)),
]


class CommonTest(unittest.TestCase):
    def assert_comes_of_both(self, one, other, told):
        """That what is told is three rows, the first of which comes of the two by the others."""
        self.assertIs(type(told), tuple)
        self.assertEqual(len(told), 3)
        for part in told:
            self.assertIs(is_row(part), True)
        shared, first, second = told
        self.assertEqual(summed(product(first, one), product(second, other)), shared)

    def assert_common(self, one, other, wanted):
        told = common(one, other)
        self.assertEqual(told[0], wanted)
        self.assert_comes_of_both(one, other, told)

    def test_rows_with_something_in_common(self):
        self.assert_common(row(-1, 0, 1), row(1, 2, 1), row(1, 1))
        self.assert_common(row(0, 0, 1), row(0, 1, 1), LETTER)
        self.assert_common(row(-2, 0, 2), row(-3, 3), row(-1, 1))
        self.assert_common(row(2, 4), row(3, 6), row(HALF, 1))
        self.assert_common(row(0, 0, 0, 5), row(0, 0, 7), row(0, 0, 1))
        self.assert_common(row(-1, 0, 0, 0, 0, 0, 1), row(-1, 0, 0, 0, 1), row(-1, 0, 1))

    def test_rows_with_nothing_in_common(self):
        self.assert_common(row(1, 1), LETTER, ONE)
        self.assert_common(row(1, 0, 1), row(-2, 0, 1), ONE)
        self.assert_common(row(2, 2), row(2, 4), ONE)
        self.assert_common(row(0, 0, 3), row(5, 7), ONE)

    def test_a_row_and_itself(self):
        for one in SMALL[1:] + LARGE:
            wanted = scaled(1 / Fraction(*one[-1]), one)
            self.assert_common(one, one, wanted)
            self.assert_common(one, scaled(Fraction(-5, 3), one), wanted)

    def test_nought(self):
        self.assert_common((), (), ())
        for one in SMALL[1:] + LARGE:
            wanted = scaled(1 / Fraction(*one[-1]), one)
            self.assert_common(one, (), wanted)
            self.assert_common((), one, wanted)

    def test_numbers(self):
        for number in [1, -1, 6, HALF, HUGE, Fraction(-3, HUGE)]:
            for one in SMALL + LARGE:
                self.assert_common(row(number), one, ONE)
                self.assert_common(one, row(number), ONE)

    def test_one_that_divides_the_other(self):
        for one in SMALL[1::7]:
            for other in SMALL[1::9]:
                wanted = scaled(1 / Fraction(*one[-1]), one)
                self.assert_common(one, product(one, other), wanted)
                self.assert_common(product(one, other), one, wanted)

    def test_many_rows(self):
        for one in SMALL[::2]:
            for other in SMALL[::3]:
                self.assert_common(one, other, in_common(one, other))

    def test_what_is_told_divides_both_and_is_the_longest(self):
        maker = Maker(4)
        for _ in range(150):
            shared, one, other = maker.led(maker.source.randint(1, 5)), maker.row(5), maker.row(4)
            if not apart_by(one, other):
                continue
            self.assertTrue(goes_into(shared, product(shared, one)))
            self.assert_common(product(shared, one), product(shared, other), shared)

    def test_powers(self):
        once, twice = row(-1, 1), row(3, 0, 2)
        one = product(raised(once, 10), raised(twice, 3))
        other = product(raised(once, 4), raised(twice, 9))
        wanted = product(raised(once, 4), raised(scaled(HALF, twice), 3))
        self.assert_common(one, other, wanted)
        self.assert_common(other, one, wanted)

    def test_numbers_of_any_size(self):
        for place, one in enumerate(LARGE):
            for other in LARGE[place:]:
                self.assert_common(one, other, in_common(one, other))

    def test_a_common_row_with_larger_numbers_than_one_of_the_rows(self):
        def power_less_one(power):
            return row(-1, *[0] * (power - 1), 1)

        tops = product(*[power_less_one(power) for power in [105, 3, 5, 7]])
        shared, rest = parted(tops, product(*[power_less_one(power) for power in [15, 21, 35, 1]]))
        self.assertEqual(rest, ())
        self.assertIn((-2, 1), shared)
        self.assert_common(power_less_one(105), product(shared, row(2, 0, 0, 1)), shared)

    def test_rows_with_misleading_values(self):
        for one, other in MISLEADING:
            self.assert_common(one, other, ONE)
            self.assert_common(product(one, row(2, 1)), product(other, row(2, 1)), row(2, 1))

    def test_a_misleading_row_that_divides_one_of_the_two(self):
        # The other row has the same value as the one at a power of two, without holding it.
        for root, bits in itertools.product([997, 999, 1000, 1001], range(11, 80)):
            value, numbers = 2 ** bits - root, []
            while value > 0:
                numbers.append(value % root)
                value //= root
            self.assert_common(row(-root, 1), row(*numbers), ONE)
            self.assert_common(row(*numbers), row(-root, 1), ONE)

    def test_large_numbers_in_one_row_alone(self):
        for power in [31, 32, 33, 60, 64, 500, 1000]:
            self.assert_common(LETTER, row(2 ** power, 1), ONE)
            self.assert_common(row(-2 ** power, 1), row(-2 ** power, 1 - 2 ** power, 1), row(-2 ** power, 1))
            self.assert_common(row(0, 0, 1), row(0, 2 ** power, 1), LETTER)

    def test_long_rows(self):
        maker = Maker(5)
        shared, one, other = maker.led(20), maker.row(40), maker.row(35)
        told = common(product(shared, one), product(shared, other))
        self.assertEqual(told[0], shared)
        self.assert_comes_of_both(product(shared, one), product(shared, other), told)

    def test_arguments_have_the_names_of_the_interface(self):
        self.assertEqual(common(one=LETTER, other=row(0, 0, 1))[0], LETTER)


if __name__ == "__main__":
    unittest.main()
