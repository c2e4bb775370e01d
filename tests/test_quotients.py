"""Point 5, and of point 10 what it says of quotients."""

import unittest
from fractions import Fraction

from fractionparts.errors import NoQuotient, NoRow, Nought
from fractionparts.quotients import is_quotient, joined, quotient, rated
from tests.reckoning import (HUGE, LARGE, LETTER, NOUGHT, ONE, SMALL, Maker, at, equal, in_common, pair_of, product,
                             raised, rate_pair, row, scaled, together)
from tests.strange import NO_QUOTIENTS, NO_ROWS

HALF = Fraction(1, 2)

QUOTIENTS = [
    NOUGHT, (ONE, ONE), (row(-3), ONE), (row(HALF), ONE), (LETTER, ONE), (row(1, 0, HALF), ONE), (ONE, LETTER),
    (row(5), row(1, 1)), (row(1, 1), LETTER), (row(1, 2, 3, 4, 5), row(-1, 1)), (row(7), row(HALF, Fraction(-2, 3), 1)),
    (ONE, raised(row(1, 1), 10)), (row(0, 1), row(1, 0, 2, 0, 1)), (row(HUGE), row(-HUGE, 0, 1)),
    (row(HUGE, Fraction(1, HUGE)), row(Fraction(-7, HUGE), HUGE, 1)),
]


def made_quotients(seed, many):
    maker = Maker(seed)
    return [maker.quotient(3) for _ in range(many)]


class IsQuotientTest(unittest.TestCase):
    def test_quotients(self):
        for thing in QUOTIENTS + made_quotients(1, 40):
            self.assertIs(is_quotient(thing), True)

    def test_other_things(self):
        for place, thing in enumerate(NO_QUOTIENTS):
            with self.subTest(place=place):
                self.assertIs(is_quotient(thing), False)

    def test_all_pairs_of_small_rows(self):
        for top in SMALL:
            for bottom in SMALL[::3]:
                wanted = bottom[-1:] == ONE and in_common(top, bottom) == ONE
                self.assertIs(is_quotient((top, bottom)), wanted)

    def test_nought_is_nought_by_one_alone(self):
        for bottom in SMALL + LARGE:
            self.assertIs(is_quotient(((), bottom)), bottom == ONE)

    def test_shared_factors_of_any_length(self):
        maker = Maker(2)
        for top, bottom in QUOTIENTS:
            for length in range(2, 6):
                factor = maker.led(length)
                self.assertIs(is_quotient((product(top, factor), product(bottom, factor))), False)

    def test_long_rows(self):
        maker = Maker(3)
        top, bottom, factor = maker.row(80), maker.led(70), maker.led(2)
        self.assertIs(is_quotient((top, bottom)), in_common(top, bottom) == ONE)
        self.assertIs(is_quotient((product(top, factor), product(bottom, factor))), False)


class QuotientCase(unittest.TestCase):
    def assert_quotient(self, told, wanted):
        """That a quotient is told, and that it is the same fraction of rows as a pair."""
        self.assertIs(type(told), tuple)
        self.assertIs(is_quotient(told), True)
        self.assertTrue(equal(told, wanted))


class QuotientTest(QuotientCase):
    def test_quotients_of_rows(self):
        self.assertEqual(quotient(row(-1, 0, 1), row(1, 1)), (row(-1, 1), ONE))
        self.assertEqual(quotient(row(1, 1), row(-1, 0, 1)), (ONE, row(-1, 1)))
        self.assertEqual(quotient(row(1), row(0, 2)), (row(HALF), LETTER))
        self.assertEqual(quotient(row(2, 2), row(4, 0, -4)), (row(-HALF), row(-1, 1)))
        self.assertEqual(quotient(row(1, 3), row(5, 7)), (row(Fraction(1, 7), Fraction(3, 7)), row(Fraction(5, 7), 1)))

    def test_nought_and_numbers(self):
        for bottom in SMALL[1:] + LARGE:
            self.assertEqual(quotient((), bottom), NOUGHT)
            self.assertEqual(quotient(bottom, bottom), (ONE, ONE))
            self.assertEqual(quotient(bottom, ONE), (bottom, ONE))
            self.assertEqual(quotient(bottom, row(-2)), (scaled(-HALF, bottom), ONE))
        self.assertEqual(quotient(row(6), row(4)), (row(Fraction(3, 2)), ONE))

    def test_a_quotient_stays_as_it_is(self):
        for top, bottom in QUOTIENTS + made_quotients(4, 30):
            self.assertEqual(quotient(top, bottom), (top, bottom))

    def test_many_rows(self):
        for top in SMALL[::2]:
            for bottom in SMALL[1::3]:
                told = quotient(top, bottom)
                self.assertEqual(told, pair_of(top, bottom))
                self.assert_quotient(told, (top, bottom))

    def test_each_fraction_of_rows_is_one_quotient(self):
        maker = Maker(6)
        for top, bottom in QUOTIENTS + made_quotients(7, 30):
            for length in range(1, 5):
                factor = maker.row(length)
                self.assertEqual(quotient(product(top, factor), product(bottom, factor)), (top, bottom))

    def test_numbers_of_any_size(self):
        for top in LARGE:
            for bottom in LARGE:
                self.assert_quotient(quotient(top, bottom), (top, bottom))

    def test_a_row_by_nought(self):
        for top in SMALL + LARGE:
            self.assertRaises(Nought, quotient, top, ())

    def test_what_is_no_row_is_refused(self):
        for place, thing in enumerate(NO_ROWS + QUOTIENTS):
            with self.subTest(place=place):
                self.assertRaises(NoRow, quotient, thing, LETTER)
                self.assertRaises(NoRow, quotient, LETTER, thing)
                self.assertRaises(NoRow, quotient, thing, ())
                self.assertRaises(NoRow, quotient, (), thing)
                self.assertRaises(NoRow, quotient, thing, thing)


class JoinedTest(QuotientCase):
    def test_sums(self):
        self.assertEqual(joined((ONE, LETTER), (ONE, row(1, 1))), (row(1, 2), row(0, 1, 1)))
        self.assertEqual(joined((ONE, LETTER), (row(3), LETTER)), (row(4), LETTER))
        self.assertEqual(joined((LETTER, ONE), (ONE, LETTER)), (row(1, 0, 1), LETTER))
        self.assertEqual(joined((row(HALF), ONE), (row(HALF), ONE)), (ONE, ONE))

    def test_sums_that_get_shorter(self):
        one, other = (row(-HALF), row(1, 1)), (row(HALF), row(-1, 1))
        self.assertEqual(joined(one, other), (ONE, row(-1, 0, 1)))
        self.assertEqual(joined((ONE, row(-1, 0, 1)), (row(HALF), row(1, 1))), (row(HALF), row(-1, 1)))
        self.assertEqual(joined((ONE, raised(LETTER, 3)), (row(-1, 1), raised(LETTER, 3))), (ONE, raised(LETTER, 2)))

    def test_nought(self):
        self.assertEqual(joined(NOUGHT, NOUGHT), NOUGHT)
        for one in QUOTIENTS:
            self.assertEqual(joined(one, NOUGHT), one)
            self.assertEqual(joined(NOUGHT, one), one)
            self.assertEqual(joined(one, (scaled(-1, one[0]), one[1])), NOUGHT)

    def test_many_quotients(self):
        quotients = QUOTIENTS + made_quotients(8, 15)
        for one in quotients:
            for other in quotients:
                told = joined(one, other)
                self.assert_quotient(told, together(one, other))
                self.assertEqual(joined(other, one), told)

    def test_what_is_no_quotient_is_refused(self):
        for place, thing in enumerate(NO_QUOTIENTS):
            with self.subTest(place=place):
                self.assertRaises(NoQuotient, joined, thing, (ONE, LETTER))
                self.assertRaises(NoQuotient, joined, (ONE, LETTER), thing)
                self.assertRaises(NoQuotient, joined, thing, NOUGHT)
                self.assertRaises(NoQuotient, joined, NOUGHT, thing)
                self.assertRaises(NoQuotient, joined, thing, thing)


class RatedTest(QuotientCase):
    def test_rates(self):
        self.assertEqual(rated((ONE, LETTER)), (row(-1), row(0, 0, 1)))
        self.assertEqual(rated((LETTER, row(1, 1))), (ONE, row(1, 2, 1)))
        self.assertEqual(rated((row(3), raised(row(1, 1), 10))), (row(-30), raised(row(1, 1), 11)))
        self.assertEqual(rated((row(0, 1), row(1, 0, 1))), (row(1, 0, -1), row(1, 0, 2, 0, 1)))

    def test_numbers_and_rows(self):
        self.assertEqual(rated(NOUGHT), NOUGHT)
        for number in [1, -1, HALF, HUGE]:
            self.assertEqual(rated((row(number), ONE)), NOUGHT)
        self.assertEqual(rated((row(1, 2, 3), ONE)), (row(2, 6), ONE))
        self.assertEqual(rated((LETTER, ONE)), (ONE, ONE))

    def test_many_quotients(self):
        for one in QUOTIENTS + made_quotients(9, 60):
            self.assert_quotient(rated(one), rate_pair(one))

    def test_the_rate_of_a_sum(self):
        quotients = QUOTIENTS[:12] + made_quotients(10, 6)
        for one in quotients:
            for other in quotients:
                self.assertEqual(rated(joined(one, other)), joined(rated(one), rated(other)))

    def test_it_is_how_a_value_changes(self):
        # The rate at a value is what nears the change of the quotient there, by a step that nears nought.
        top, bottom = row(1, -2, 0, 5), row(3, 1, 1)
        told = rated((top, bottom))
        step = Fraction(1, 10 ** 12)
        for value in range(-3, 4):
            before, behind = [at(top, value + way) / at(bottom, value + way) for way in [-step, step]]
            wanted = at(told[0], value) / at(told[1], value)
            self.assertLess(abs((behind - before) / (2 * step) - wanted), step)

    def test_what_is_no_quotient_is_refused(self):
        for place, thing in enumerate(NO_QUOTIENTS):
            with self.subTest(place=place):
                self.assertRaises(NoQuotient, rated, thing)


class NamesTest(unittest.TestCase):
    def test_arguments_have_the_names_of_the_interface(self):
        self.assertIs(is_quotient(thing=NOUGHT), True)
        self.assertEqual(quotient(top=LETTER, bottom=ONE), (LETTER, ONE))
        self.assertEqual(joined(one=NOUGHT, other=(ONE, ONE)), (ONE, ONE))
        self.assertEqual(rated(one=(LETTER, ONE)), (ONE, ONE))


if __name__ == "__main__":
    unittest.main()
