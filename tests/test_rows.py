"""Points 2 and 3, and of point 10 what it says of rows."""

import unittest
from fractions import Fraction

from fractionparts.errors import NoRow, Nought
from fractionparts.numbers import is_fraction
from fractionparts.rows import divided, is_row, plus, rate, times
from tests.reckoning import HUGE, LARGE, LETTER, ONE, SMALL, at, row
from tests.strange import NO_ROWS


def minus(one):
    return times(((-1, 1),), one)


class RowTest(unittest.TestCase):
    def assert_row(self, thing):
        """That a thing is a row by the words of point 2, asked without is_row."""
        self.assertIs(type(thing), tuple)
        self.assertTrue(all([is_fraction(part) for part in thing]))
        self.assertNotEqual(thing[-1:], ((0, 1),))


class IsRowTest(RowTest):
    def test_rows(self):
        for thing in [(), ONE, LETTER, row(0, 0, 5), row(Fraction(1, 2)), row(-1, 0, Fraction(-3, 4)), *LARGE]:
            self.assertIs(is_row(thing), True)
        for thing in SMALL:
            self.assert_row(thing)
            self.assertIs(is_row(thing), True)

    def test_other_things(self):
        for place, thing in enumerate(NO_ROWS):
            with self.subTest(place=place):
                self.assertIs(is_row(thing), False)

    def test_nought_behind_alone_matters(self):
        self.assertIs(is_row(((0, 1), (0, 1), (1, 1))), True)
        self.assertIs(is_row(((1, 1), (0, 1))), False)
        self.assertIs(is_row(((0, 1),)), False)

    def test_a_wrong_fraction_at_any_place(self):
        for place in range(3):
            for wrong in [(2, 2), (1, -1), (True, 1), [1, 1], 1, None]:
                thing = list(row(1, 2, 3))
                thing[place] = wrong
                self.assertIs(is_row(tuple(thing)), False)

    def test_a_list_is_left_as_it_was(self):
        thing = [[1, 1], (0, 1)]
        is_row(thing)
        self.assertEqual(thing, [[1, 1], (0, 1)])


class PlusTest(RowTest):
    def test_power_by_power(self):
        self.assertEqual(plus(row(1, 2, 3), row(4, 5, 6)), row(5, 7, 9))
        self.assertEqual(plus(row(Fraction(1, 2)), row(Fraction(1, 3))), row(Fraction(5, 6)))

    def test_rows_of_several_lengths(self):
        self.assertEqual(plus(row(1), row(0, 0, 1)), row(1, 0, 1))
        self.assertEqual(plus(row(0, 0, 1), row(1)), row(1, 0, 1))
        self.assertEqual(plus(row(1, 1), row(-1, 4, 5)), row(0, 5, 5))

    def test_nought_changes_nothing(self):
        self.assertEqual(plus((), ()), ())
        for one in SMALL + LARGE:
            self.assertEqual(plus(one, ()), one)
            self.assertEqual(plus((), one), one)

    def test_last_places_that_take_each_other_away(self):
        self.assertEqual(plus(row(1, 2, 3), row(1, 1, -3)), row(2, 3))
        self.assertEqual(plus(row(1, 2, 3), row(1, -2, -3)), row(2))
        self.assertEqual(plus(row(0, 2, 3), row(0, 1, -3)), row(0, 3))
        self.assertEqual(plus(row(0, 0, Fraction(1, 2)), row(5, 0, Fraction(-1, 2))), row(5))
        for one in SMALL + LARGE:
            self.assertEqual(plus(one, minus(one)), ())

    def test_many_rows(self):
        for one in SMALL:
            for other in SMALL:
                told = plus(one, other)
                self.assert_row(told)
                for value in range(4):
                    self.assertEqual(at(told, value), at(one, value) + at(other, value))

    def test_numbers_of_any_size(self):
        for one in LARGE:
            for other in LARGE:
                self.assert_row(plus(one, other))
                self.assertEqual(at(plus(one, other), 3), at(one, 3) + at(other, 3))


class TimesTest(RowTest):
    def test_products(self):
        self.assertEqual(times(row(1, 1), row(1, 1)), row(1, 2, 1))
        self.assertEqual(times(row(-1, 1), row(1, 1)), row(-1, 0, 1))
        self.assertEqual(times(row(1, 2), row(3, 4, 5)), row(3, 10, 13, 10))
        half = Fraction(1, 2)
        self.assertEqual(times(row(half, 2), row(half, -2)), row(Fraction(1, 4), 0, -4))
        self.assertEqual(times(LETTER, row(7, 8)), row(0, 7, 8))

    def test_nought_and_one(self):
        self.assertEqual(times((), ()), ())
        for one in SMALL + LARGE:
            self.assertEqual(times(one, ()), ())
            self.assertEqual(times((), one), ())
            self.assertEqual(times(one, ONE), one)
            self.assertEqual(times(ONE, one), one)

    def test_numbers_as_rows(self):
        self.assertEqual(times(row(2), row(3)), row(6))
        self.assertEqual(times(row(Fraction(2, 3)), row(Fraction(3, 2))), ONE)
        self.assertEqual(times(row(2), row(1, 0, Fraction(1, 2))), row(2, 0, 1))

    def test_many_rows(self):
        for one in SMALL:
            for other in SMALL:
                told = times(one, other)
                self.assert_row(told)
                for value in range(5):
                    self.assertEqual(at(told, value), at(one, value) * at(other, value))

    def test_numbers_of_any_size(self):
        self.assertEqual(times(row(HUGE, 1), row(-HUGE, 1)), row(-HUGE * HUGE, 0, 1))
        for one in LARGE:
            for other in LARGE:
                self.assert_row(times(one, other))
                self.assertEqual(at(times(one, other), 3), at(one, 3) * at(other, 3))
                self.assertEqual(times(one, other), times(other, one))


class DividedTest(RowTest):
    def assert_divided(self, one, other):
        told = divided(one, other)
        self.assertIs(type(told), tuple)
        whole, rest = told
        self.assert_row(whole)
        self.assert_row(rest)
        self.assertLess(len(rest), len(other))
        self.assertEqual(plus(times(whole, other), rest), one)

    def test_divisions(self):
        self.assertEqual(divided(row(1, 0, 1), row(1, 1)), (row(-1, 1), row(2)))
        self.assertEqual(divided(row(1, 2, 3), row(0, 2)), (row(1, Fraction(3, 2)), row(1)))
        self.assertEqual(divided(row(5, 4, 3, 2), row(1, 0, 2)), (row(Fraction(3, 2), 1), row(Fraction(7, 2), 3)))
        self.assertEqual(divided(row(0, 0, 0, 1), row(0, 0, 6)), (row(0, Fraction(1, 6)), ()))

    def test_a_row_divided_by_a_longer_one(self):
        self.assertEqual(divided(row(1, 2), row(1, 2, 3)), ((), row(1, 2)))
        self.assertEqual(divided(row(5), LETTER), ((), row(5)))
        self.assertEqual(divided((), row(1, 2, 3)), ((), ()))

    def test_a_row_divided_by_one_as_long(self):
        self.assertEqual(divided(row(1, 2, 4), row(0, 1, 2)), (row(2), row(1)))
        self.assertEqual(divided(row(1, 2, 4), row(1, 1, 2)), (row(2), row(-1)))
        self.assertEqual(divided(row(1, 2), row(1, 2)), (ONE, ()))

    def test_numbers(self):
        self.assertEqual(divided(row(3), row(4)), (row(Fraction(3, 4)), ()))
        self.assertEqual(divided(row(1, 2, 3), row(-2)), (row(Fraction(-1, 2), -1, Fraction(-3, 2)), ()))
        self.assertEqual(divided((), row(4)), ((), ()))

    def test_a_product_divided_by_its_factor(self):
        for one in SMALL + LARGE:
            for other in SMALL[1:30] + LARGE:
                self.assertEqual(divided(times(one, other), other), (one, ()))

    def test_a_product_with_a_rest(self):
        for one in SMALL:
            for rest in [(), row(5), row(Fraction(-1, 3), 2)]:
                dividend = plus(times(one, row(1, 2, -3)), rest)
                self.assertEqual(divided(dividend, row(1, 2, -3)), (one, rest))

    def test_noughts_within_the_whole(self):
        self.assertEqual(divided(row(-1, 0, 0, 0, 1), row(0, 0, 1)), (row(0, 0, 1), row(-1)))
        self.assertEqual(divided(row(3, 0, 0, 0, 4), row(0, 2)), (row(0, 0, 0, 2), row(3)))

    def test_many_rows(self):
        for one in SMALL:
            for other in SMALL:
                if other:
                    self.assert_divided(one, other)

    def test_numbers_of_any_size(self):
        for one in LARGE:
            for other in LARGE:
                self.assert_divided(one, other)

    def test_long_rows(self):
        one = row(*[Fraction(k * k + 1, k + 2) for k in range(120)])
        other = row(*[Fraction(3 * k - 40, 7) for k in range(60)])
        self.assert_divided(one, other)
        self.assertEqual(divided(times(one, other), other), (one, ()))


class RateTest(RowTest):
    def test_rates(self):
        self.assertEqual(rate(row(1, 2, 3)), row(2, 6))
        self.assertEqual(rate(row(0, 0, Fraction(1, 2))), row(0, 1))
        self.assertEqual(rate(row(7, 0, 0, Fraction(-1, 6))), row(0, 0, Fraction(-1, 2)))
        self.assertEqual(rate(LETTER), ONE)

    def test_numbers_have_the_rate_nought(self):
        self.assertEqual(rate(()), ())
        for number in [1, -1, Fraction(1, 2), HUGE]:
            self.assertEqual(rate(row(number)), ())

    def test_by_the_words_of_the_point(self):
        for one in SMALL + LARGE:
            told = rate(one)
            self.assert_row(told)
            values = [Fraction(top, bottom) for top, bottom in one]
            self.assertEqual(told, row(*[(place + 1) * values[place + 1] for place in range(len(one) - 1)]))

    def test_the_rate_of_a_product(self):
        for one in SMALL[::3] + LARGE:
            for other in SMALL[::3] + LARGE:
                wanted = plus(times(rate(one), other), times(one, rate(other)))
                self.assertEqual(rate(times(one, other)), wanted)


class RefusalTest(unittest.TestCase):
    def test_what_is_no_row_is_refused(self):
        for place, thing in enumerate(NO_ROWS):
            with self.subTest(place=place):
                self.assertRaises(NoRow, rate, thing)
                for action in [plus, times, divided]:
                    self.assertRaises(NoRow, action, thing, row(1, 2))
                    self.assertRaises(NoRow, action, row(1, 2), thing)
                    self.assertRaises(NoRow, action, thing, thing)

    def test_beside_a_nought(self):
        for place, thing in enumerate(NO_ROWS):
            with self.subTest(place=place):
                for action in [plus, times, divided]:
                    self.assertRaises(NoRow, action, thing, ())
                    self.assertRaises(NoRow, action, (), thing)

    def test_a_row_by_nought(self):
        for one in SMALL + LARGE:
            self.assertRaises(Nought, divided, one, ())

    def test_true_and_false_are_no_rows(self):
        for thing in [True, False]:
            self.assertRaises(NoRow, divided, thing, thing)
            self.assertRaises(NoRow, rate, thing)

    def test_lists_are_left_as_they_were(self):
        thing = [(1, 1), (0, 1)]
        for action in [plus, times, divided]:
            self.assertRaises(NoRow, action, thing, ONE)
            self.assertRaises(NoRow, action, ONE, thing)
        self.assertRaises(NoRow, rate, thing)
        self.assertEqual(thing, [(1, 1), (0, 1)])

    def test_things_are_told_again_after_a_refusal(self):
        self.assertRaises(NoRow, plus, None, ONE)
        self.assertEqual(plus(ONE, ONE), row(2))

    def test_arguments_have_the_names_of_the_interface(self):
        self.assertIs(is_row(thing=()), True)
        self.assertEqual(plus(one=ONE, other=LETTER), row(1, 1))
        self.assertEqual(times(one=ONE, other=LETTER), LETTER)
        self.assertEqual(divided(one=ONE, other=LETTER), ((), ONE))
        self.assertEqual(rate(row=LETTER), ONE)


if __name__ == "__main__":
    unittest.main()
