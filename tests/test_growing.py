"""Point 8 and the second half of 9, and of point 10 what it says of growths."""

import unittest
from fractions import Fraction

from fractionparts.errors import NoQuotient
from fractionparts.growing import growth
from fractionparts.quotients import is_quotient, joined, rated
from tests.reckoning import (HUGE, LETTER, NOUGHT, ONE, SMALL, Maker, apart_by, changed, equal, pair_of, parted, product,
                             raised, rate_pair, row, scaled, summed, together)
from tests.strange import NO_QUOTIENTS

HALF = Fraction(1, 2)

A, B, C, D = row(1, 1), row(-1, 1), row(2, 0, 1), row(HALF, 1, 0, 1)


class GrowthCase(unittest.TestCase):
    def assert_grown(self, grown):
        """That grown is a quotient without a number in its whole."""
        self.assertIs(is_quotient(grown), True)
        whole, _ = parted(*grown)
        self.assertEqual(whole[:1], ((0, 1),) if whole else ())

    def assert_growth(self, one):
        """That a quotient's growth is right by the words of point 8; what was told."""
        told = growth(one)
        self.assertIs(type(told), tuple)
        self.assert_grown(told[1])
        if told[0] == "growth":
            self.assertEqual(len(told), 2)
            self.assertTrue(equal(rate_pair(told[1]), one))
            return told
        self.assertEqual(told[0], "barred")
        _, grown, rest = told
        self.assertIs(is_quotient(rest), True)
        top, bottom = rest
        self.assertNotEqual(top, ())
        self.assertLess(len(top), len(bottom))
        self.assertTrue(apart_by(bottom, changed(bottom)))
        self.assertTrue(equal(together(rate_pair(grown), rest), one))
        return told

    def assert_told(self, one, wanted):
        self.assertEqual(self.assert_growth(one), wanted)


class GrownTest(GrowthCase):
    def test_nought(self):
        self.assert_told(NOUGHT, ("growth", NOUGHT))

    def test_numbers_and_rows(self):
        self.assert_told((ONE, ONE), ("growth", (LETTER, ONE)))
        self.assert_told((row(HUGE), ONE), ("growth", (row(0, HUGE), ONE)))
        self.assert_told((row(1, 2, 3), ONE), ("growth", (row(0, 1, 1, 1), ONE)))
        self.assert_told((row(0, 0, HALF), ONE), ("growth", (row(0, 0, 0, Fraction(1, 6)), ONE)))
        for one in SMALL[1:]:
            grown = (row(0, *[Fraction(top, bottom) / (place + 1) for place, (top, bottom) in enumerate(one)]), ONE)
            self.assert_told((one, ONE), ("growth", grown))

    def test_powers(self):
        for part in [LETTER, A, row(HALF, 1), row(-HUGE, 1)]:
            for power in range(2, 12):
                grown = (row(Fraction(-1, power - 1)), raised(part, power - 1))
                self.assert_told((ONE, raised(part, power)), ("growth", grown))

    def test_longer_parts(self):
        self.assert_told((row(0, 1), raised(C, 2)), ("growth", (row(-HALF), C)))
        self.assert_told((row(2, 0, -1), raised(C, 2)), ("growth", (LETTER, C)))
        self.assert_told((row(-1, 0, -3), raised(D, 2)), ("growth", (ONE, D)))
        self.assert_told((row(1, 0, 3), raised(D, 10)), ("growth", (row(Fraction(-1, 9)), raised(D, 9))))

    def test_with_a_whole(self):
        one = pair_of(*together((row(1, 2), ONE), (row(-1), raised(A, 2))))
        self.assert_told(one, ("growth", pair_of(*together((row(0, 1, 1), ONE), (ONE, A)))))

    def test_no_number_in_the_whole(self):
        # Both have the same rate; the one without a number in its whole is told.
        for number in [1, -3, HALF, HUGE]:
            self.assert_told(rated((LETTER, A)), ("growth", (row(-1), A)))
            one = rated(pair_of(*together((row(number), ONE), (row(1, 1), C))))
            self.assert_told(one, ("growth", (row(1, 1), C)))

    def test_a_rate_is_grown_back(self):
        maker = Maker(21)
        for _ in range(120):
            grown = maker.quotient(4)
            whole, _ = parted(*grown)
            one = rated(grown)
            number = scaled(-1, whole[:1]) if whole else ()
            self.assert_told(one, ("growth", pair_of(*together(grown, (summed(number), ONE)))))

    def test_a_rate_with_powers_up_to_ten_is_grown_back(self):
        for power in range(1, 11):
            bottom = product(raised(A, power), raised(C, 11 - power), row(-3, 1))
            grown = pair_of(row(*range(2, power + 4)), bottom)
            self.assert_told(rated(grown), ("growth", grown))


class BarredTest(GrowthCase):
    def test_rests_alone(self):
        for bottom in [LETTER, A, C, D, product(A, B), product(LETTER, C, D)]:
            self.assert_told((ONE, bottom), ("barred", NOUGHT, (ONE, bottom)))
            self.assert_told((row(HUGE), bottom), ("barred", NOUGHT, (row(HUGE), bottom)))
        self.assert_told((row(0, 1), C), ("barred", NOUGHT, (row(0, 1), C)))
        self.assert_told((row(1, 0, 3), D), ("barred", NOUGHT, (row(1, 0, 3), D)))

    def test_with_a_whole(self):
        self.assert_told((row(1, 1), LETTER), ("barred", (LETTER, ONE), (ONE, LETTER)))
        self.assert_told((row(0, 0, 0, 1), C), ("barred", (row(0, 0, HALF), ONE), (row(0, -2), C)))

    def test_both_together(self):
        self.assert_told((row(1, 1), raised(LETTER, 2)), ("barred", (row(-1), LETTER), (ONE, LETTER)))
        self.assert_told((ONE, product(LETTER, raised(A, 2))), ("barred", (ONE, A), (ONE, row(0, 1, 1))))
        self.assert_told((ONE, raised(row(1, 0, 1), 2)),
                         ("barred", (row(0, HALF), row(1, 0, 1)), (row(HALF), row(1, 0, 1))))

    def test_a_rest_whose_bottom_lacks_some_parts(self):
        one = pair_of(*together(rate_pair((ONE, product(A, C))), (ONE, B)))
        self.assert_told(one, ("barred", (ONE, product(A, C)), (ONE, B)))
        one = pair_of(*together(rate_pair((ONE, product(raised(A, 3), C))), (row(5), A)))
        self.assert_told(one, ("barred", (ONE, product(raised(A, 3), C)), (row(5), A)))

    def test_rates_and_rests_are_told_again(self):
        maker = Maker(22)
        bottoms = [A, B, C, product(A, C), product(B, D), product(A, B, LETTER)]
        for _ in range(120):
            grown = maker.quotient(3)
            if parted(*grown)[0]:
                continue
            bottom = maker.source.choice(bottoms)
            rest = pair_of(maker.row(maker.source.randint(1, len(bottom) - 1)), bottom)
            self.assert_told(joined(rated(grown), rest), ("barred", grown, rest))

    def test_all_small_quotients(self):
        for top in SMALL[::4]:
            for bottom in SMALL[1::6]:
                self.assert_growth(pair_of(top, raised(bottom, 2)))

    def test_many_quotients(self):
        maker = Maker(23)
        told = [self.assert_growth(maker.quotient(4))[0] for _ in range(150)]
        self.assertEqual(set(told), {"growth", "barred"})

    def test_powers_up_to_ten(self):
        for power in range(1, 11):
            self.assert_growth(pair_of(row(*range(1, 9)), product(raised(A, power), raised(C, 11 - power), D)))

    def test_all_powers_up_to_ten_at_once(self):
        bottom = product(*[raised(row(-number, 1), number) for number in range(1, 11)])
        self.assertEqual(self.assert_growth((row(3, 1, 4, 1, 5), bottom))[0], "barred")

    def test_numbers_of_any_size(self):
        bottom = product(raised(row(HUGE, 1), 3), row(Fraction(1, HUGE), 0, 1), LETTER)
        self.assert_growth(pair_of(row(1, HUGE, 0, Fraction(5, HUGE), 7, 1, 0, 0, 1), bottom))

    def test_a_long_quotient(self):
        maker = Maker(24)
        bottom = product(raised(maker.led(5), 3), raised(maker.led(4), 4), maker.led(8))
        self.assert_growth(pair_of(maker.row(45), bottom))

    def test_growths_of_sums(self):
        # What bars the one of two quotients bars their sum in the same measure.
        maker = Maker(25)
        for _ in range(40):
            one = maker.quotient(3)
            other = rated(maker.quotient(2))
            before, behind = growth(one), growth(joined(one, other))
            self.assertEqual(before[0], behind[0])
            self.assertEqual(before[2:], behind[2:])
            self.assertEqual(behind[1], joined(before[1], growth(other)[1]))


class RefusalTest(unittest.TestCase):
    def test_what_is_no_quotient_is_refused(self):
        for place, thing in enumerate(NO_QUOTIENTS):
            with self.subTest(place=place):
                self.assertRaises(NoQuotient, growth, thing)

    def test_the_argument_has_the_name_of_the_interface(self):
        self.assertEqual(growth(one=NOUGHT), ("growth", NOUGHT))


if __name__ == "__main__":
    unittest.main()
