"""Point 1, and of point 10 what it says of the functions of fractions."""

import unittest
from fractions import Fraction

from fractionparts.errors import Nought
from fractionparts.numbers import fraction, is_fraction, part_of, product_of, sum_of
from tests.strange import FRACTIONS, NO_FRACTIONS

HUGE = 10 ** 500


def plain(value):
    """The tuple that a fraction of Python's own is."""
    return (value.numerator, value.denominator)


def small_values():
    values = {Fraction(top, bottom) for top in range(-6, 7) for bottom in range(1, 6)}
    return sorted(values) + [Fraction(HUGE, HUGE + 1), Fraction(-1, HUGE), Fraction(HUGE)]


class FractionTest(unittest.TestCase):
    def assert_same(self, told, wanted):
        self.assertEqual(told, wanted)
        self.assertIs(type(told), tuple)
        self.assertEqual([type(number) for number in told], [int, int])

    def test_a_fraction_without_a_shared_divisor_is_as_handed_in(self):
        for top, bottom in [(1, 1), (1, 2), (-1, 2), (3, 7), (-22, 7), (5, 1)]:
            self.assert_same(fraction(top, bottom), (top, bottom))

    def test_shared_divisors_go(self):
        self.assert_same(fraction(6, 4), (3, 2))
        self.assert_same(fraction(-6, 4), (-3, 2))
        self.assert_same(fraction(12, 4), (3, 1))
        self.assert_same(fraction(4, 12), (1, 3))
        self.assert_same(fraction(7, 7), (1, 1))

    def test_a_bottom_below_nought_turns_both_signs(self):
        self.assert_same(fraction(1, -2), (-1, 2))
        self.assert_same(fraction(-1, -2), (1, 2))
        self.assert_same(fraction(6, -4), (-3, 2))
        self.assert_same(fraction(-6, -4), (3, 2))
        self.assert_same(fraction(3, -1), (-3, 1))

    def test_nought_is_nought_by_one(self):
        for bottom in [1, 2, -1, -7, HUGE, -HUGE]:
            self.assert_same(fraction(0, bottom), (0, 1))

    def test_numbers_of_any_size(self):
        self.assert_same(fraction(6 * HUGE, 4 * HUGE), (3, 2))
        self.assert_same(fraction(HUGE + 1, -HUGE), (-HUGE - 1, HUGE))
        self.assert_same(fraction(2 ** 5000, 2 ** 4999), (2, 1))

    def test_every_small_fraction(self):
        for top in range(-30, 31):
            for bottom in [*range(-30, 0), *range(1, 31)]:
                self.assert_same(fraction(top, bottom), plain(Fraction(top, bottom)))

    def test_arguments_have_the_names_of_the_interface(self):
        self.assertEqual(fraction(top=2, bottom=4), (1, 2))
        self.assertIs(is_fraction(thing=(1, 2)), True)
        self.assertEqual(sum_of(one=(1, 2), other=(1, 3)), (5, 6))
        self.assertEqual(product_of(one=(1, 2), other=(1, 3)), (1, 6))
        self.assertEqual(part_of(one=(1, 2), other=(1, 3)), (3, 2))


class IsFractionTest(unittest.TestCase):
    def test_fractions(self):
        for thing in FRACTIONS:
            self.assertIs(is_fraction(thing), True)

    def test_other_things(self):
        for at, thing in enumerate(NO_FRACTIONS):
            with self.subTest(at=at):
                self.assertIs(is_fraction(thing), False)

    def test_all_small_pairs(self):
        for top in range(-12, 13):
            for bottom in range(-12, 13):
                wanted = bottom > 0 and plain(Fraction(top, bottom)) == (top, bottom)
                self.assertIs(is_fraction((top, bottom)), wanted)

    def test_a_list_is_left_as_it_was(self):
        thing = [1, 2]
        is_fraction(thing)
        self.assertEqual(thing, [1, 2])

    def test_an_endless_thing_is_not_begun(self):
        thing = iter([1, 2])
        is_fraction(thing)
        self.assertEqual(list(thing), [1, 2])


class ReckoningTest(unittest.TestCase):
    def test_sums(self):
        self.assertEqual(sum_of((1, 2), (1, 3)), (5, 6))
        self.assertEqual(sum_of((1, 6), (1, 3)), (1, 2))
        self.assertEqual(sum_of((1, 2), (-1, 2)), (0, 1))
        self.assertEqual(sum_of((0, 1), (3, 7)), (3, 7))

    def test_products(self):
        self.assertEqual(product_of((2, 3), (3, 2)), (1, 1))
        self.assertEqual(product_of((-2, 3), (1, 2)), (-1, 3))
        self.assertEqual(product_of((0, 1), (3, 7)), (0, 1))

    def test_parts(self):
        self.assertEqual(part_of((1, 2), (1, 4)), (2, 1))
        self.assertEqual(part_of((1, 2), (-3, 4)), (-2, 3))
        self.assertEqual(part_of((0, 1), (-3, 4)), (0, 1))
        self.assertEqual(part_of((-1, 2), (-1, 2)), (1, 1))

    def test_all_three_with_many_numbers(self):
        values = small_values()
        for one in values:
            for other in values:
                pair = (plain(one), plain(other))
                self.assertEqual(sum_of(*pair), plain(one + other))
                self.assertEqual(product_of(*pair), plain(one * other))
                if other != 0:
                    self.assertEqual(part_of(*pair), plain(one / other))

    def test_what_is_told_is_a_fraction(self):
        for one in FRACTIONS:
            for other in FRACTIONS:
                told = [sum_of(one, other), product_of(one, other)]
                if other != (0, 1):
                    told.append(part_of(one, other))
                self.assertTrue(all([is_fraction(part) for part in told]))

    def test_the_same_is_told_again(self):
        self.assertEqual([sum_of((1, 2), (1, 3)) for _ in range(3)], [(5, 6)] * 3)


class NoughtTest(unittest.TestCase):
    def test_a_fraction_by_nought(self):
        for top in [1, -1, 0, 7, HUGE]:
            self.assertRaises(Nought, fraction, top, 0)

    def test_a_part_by_nought(self):
        for one in FRACTIONS:
            self.assertRaises(Nought, part_of, one, (0, 1))


if __name__ == "__main__":
    unittest.main()
