"""Points 6, 7 and the first half of 9, and of point 10 what it says of told rows and of the parts of nought."""

import itertools
import unittest
from fractions import Fraction

from fractionparts.errors import NoQuotient, NoRow, Nought
from fractionparts.parting import apart, parts
from fractionparts.rows import is_row
from tests.reckoning import (HUGE, LARGE, LETTER, NOUGHT, ONE, SMALL, Maker, apart_by, changed, equal, goes_into, numbers_of,
                             pair_of, parted, product, raised, row, scaled, together)
from tests.strange import NO_QUOTIENTS, NO_ROWS

HALF = Fraction(1, 2)

# Led rows of which no two share anything, none of which shares anything with its rate.
A, B, C, D = row(1, 1), row(-1, 1), row(2, 0, 1), row(HALF, 1, 0, 1)


class PartsCase(unittest.TestCase):
    def assert_parts(self, one, told, found):
        """That what was found are the parts of a row by told rows: the five properties of point 6, and their order."""
        self.assertIs(type(found), list)
        for pair in found:
            self.assertIs(type(pair), tuple)
            part, power = pair
            self.assertIs(is_row(part), True)
            self.assertIs(type(power), int)
            self.assertGreaterEqual(power, 1)
            self.assertGreater(len(part), 1)
            self.assertEqual(part[-1], (1, 1))
            self.assertTrue(apart_by(part, changed(part)))
            for other in told:
                self.assertTrue(goes_into(part, other) or apart_by(part, other))
        for (part, _), (other, _) in itertools.combinations(found, 2):
            self.assertTrue(apart_by(part, other))
        whole = product(*[raised(part, power) for part, power in found])
        self.assertEqual(scaled(numbers_of(one)[-1], whole), one)
        # Two places that are the same would be two parts of one power that divide just the same told rows.
        places = [(power, [not goes_into(part, other) for other in told]) for part, power in found]
        for before, behind in zip(places, places[1:]):
            self.assertLess(before, behind)

    def assert_told(self, one, told, wanted):
        found = parts(one, told)
        self.assertEqual(found, wanted)
        self.assert_parts(one, told, found)


class PartsTest(PartsCase):
    def test_a_number_has_none(self):
        for number in [1, -1, 7, HALF, HUGE, Fraction(1, HUGE)]:
            for told in [[], [()], [LETTER], [ONE, row(5), (), A, product(A, A)]]:
                self.assert_told(row(number), told, [])

    def test_by_no_told_rows(self):
        self.assert_told(LETTER, [], [(LETTER, 1)])
        self.assert_told(row(3, 5), [], [(row(Fraction(3, 5), 1), 1)])
        self.assert_told(product(A, B), [], [(product(A, B), 1)])
        self.assert_told(product(row(-7), A, B, B), [], [(A, 1), (B, 2)])
        self.assert_told(raised(C, 4), [], [(C, 4)])

    def test_each_power_up_to_ten(self):
        for power in range(1, 11):
            self.assert_told(raised(A, power), [], [(A, power)])
            self.assert_told(product(raised(C, power), row(HALF)), [A], [(C, power)])
        for power in range(2, 10):
            wanted = sorted([(A, power), (D, 11 - power)], key=lambda pair: pair[1])
            self.assert_told(product(raised(A, power), raised(D, 11 - power), B, row(-2)), [], [(B, 1), *wanted])

    def test_all_powers_up_to_ten_at_once(self):
        factors = [(row(-number, 1), number) for number in range(1, 11)]
        self.assert_told(product(*[raised(part, power) for part, power in factors]), [], factors)

    def test_powers_with_gaps(self):
        one = product(raised(A, 3), raised(B, 10), raised(C, 6))
        self.assert_told(one, [], [(A, 3), (C, 6), (B, 10)])
        self.assert_told(scaled(HUGE, one), [()], [(A, 3), (C, 6), (B, 10)])

    def test_parts_that_only_a_told_row_cuts(self):
        self.assert_told(product(A, B), [A], [(A, 1), (B, 1)])
        self.assert_told(product(A, B), [B], [(B, 1), (A, 1)])
        self.assert_told(row(2, 0, -3, 0, 1), [], [(row(2, 0, -3, 0, 1), 1)])
        self.assert_told(row(2, 0, -3, 0, 1), [product(B, row(5, 1))], [(B, 1), (row(-2, -2, 1, 1), 1)])
        self.assert_told(raised(product(A, C), 5), [product(C, C, D)], [(C, 5), (A, 5)])
        self.assert_told(product(raised(product(A, B), 2), C), [B], [(C, 1), (B, 2), (A, 2)])

    def test_told_rows_that_cut_nothing(self):
        one = product(A, B, C, C)
        wanted = [(product(A, B), 1), (C, 2)]
        for told in [[()], [ONE], [row(-5)], [(), (), ONE], [D], [product(A, B)], [one], [scaled(3, one)], [C, C, (), D]]:
            self.assert_told(one, told, wanted)

    def test_told_rows_with_powers_of_their_own(self):
        self.assert_told(product(A, B), [raised(A, 7)], [(A, 1), (B, 1)])
        self.assert_told(raised(product(A, B), 3), [product(raised(B, 2), D)], [(B, 3), (A, 3)])

    def test_the_order_of_parts_with_the_same_power(self):
        one = product(A, B, C, D)
        self.assert_told(one, [product(C, B), product(C, A)], [(C, 1), (B, 1), (A, 1), (D, 1)])
        self.assert_told(one, [product(C, A), product(C, B)], [(C, 1), (A, 1), (B, 1), (D, 1)])
        self.assert_told(one, [D, C, B, A], [(D, 1), (C, 1), (B, 1), (A, 1)])
        self.assert_told(one, [(), product(A, D), ONE, product(D, B)], [(D, 1), (A, 1), (B, 1), (C, 1)])
        self.assert_told(raised(one, 2), [product(B, D), B, C], [(B, 2), (D, 2), (C, 2), (A, 2)])

    def test_lesser_powers_come_before_told_rows(self):
        self.assert_told(product(A, A, B), [A], [(B, 1), (A, 2)])
        one = product(raised(product(A, B), 3), raised(product(C, D), 2))
        self.assert_told(one, [product(A, C)], [(C, 2), (D, 2), (A, 3), (B, 3)])

    def test_every_choice_of_told_rows(self):
        factors = [A, B, C, D]
        rows = [(), row(3), A, product(A, B), product(B, C), product(A, D, D), product(C, D)]
        for powers in [(1, 1, 1, 1), (2, 1, 2, 1), (3, 3, 1, 1), (1, 2, 3, 10)]:
            one = product(*[raised(part, power) for part, power in zip(factors, powers)])
            for told in itertools.permutations(rows, 2):
                self.assert_parts(one, list(told), parts(one, list(told)))

    def test_small_rows(self):
        for one in SMALL[1::3]:
            for other in SMALL[::5]:
                self.assert_parts(one, [other], parts(one, [other]))

    def test_numbers_of_any_size(self):
        for one in LARGE:
            self.assert_parts(one, LARGE, parts(one, LARGE))
            one = product(raised(row(HUGE, 1), 3), raised(row(Fraction(1, HUGE), 1), 3), row(-HUGE))
            self.assert_told(one, [row(HUGE, 1)], [(row(HUGE, 1), 3), (row(Fraction(1, HUGE), 1), 3)])

    def test_many_rows(self):
        maker = Maker(11)
        for _ in range(60):
            factors = [maker.row(maker.source.randint(1, 4)) for _ in range(maker.source.randint(1, 4))]
            one = maker.many_powers(factors, 4)
            told = [product(*maker.source.sample(factors, maker.source.randrange(len(factors))), maker.row(2))
                    for _ in range(maker.source.randrange(4))]
            self.assert_parts(one, told, parts(one, told))

    def test_long_rows(self):
        maker = Maker(12)
        factors = [maker.led(9), maker.led(6), maker.led(4)]
        one = product(raised(factors[0], 2), raised(factors[1], 5), raised(factors[2], 10))
        self.assert_parts(one, [factors[1], maker.row(30)], parts(one, [factors[1], maker.row(30)]))


class ApartCase(PartsCase):
    def assert_apart(self, one, told):
        """That a quotient is taken apart as point 7 has it; what was told."""
        answer = apart(one, told)
        self.assertIs(type(answer), tuple)
        whole, pieces = answer
        self.assertIs(is_row(whole), True)
        self.assertIs(type(pieces), list)
        allowed = [(part, power) for part, most in parts(one[1], told) for power in range(1, most + 1)]
        self.assert_parts(one[1], told, parts(one[1], told))
        places = []
        for piece in pieces:
            self.assertIs(type(piece), tuple)
            top, part, power = piece
            self.assertIs(is_row(top), True)
            self.assertNotEqual(top, ())
            self.assertLess(len(top), len(part))
            places.append(allowed.index((part, power)))
        self.assertEqual(places, sorted(set(places)))
        summands = [(top, raised(part, power)) for top, part, power in pieces]
        self.assertTrue(equal(together((whole, ONE), *summands), one))
        self.assertEqual(whole, parted(*one)[0])
        return answer

    def assert_told(self, one, told, wanted):
        self.assertEqual(self.assert_apart(one, told), wanted)


class ApartTest(ApartCase):
    def test_without_parts(self):
        for told in [[], [()], [ONE, LETTER]]:
            self.assert_told(NOUGHT, told, ((), []))
            for whole in [ONE, row(HALF), LETTER, row(1, 2, HUGE)]:
                self.assert_told((whole, ONE), told, (whole, []))

    def test_one_part(self):
        self.assert_told((ONE, LETTER), [], ((), [(ONE, LETTER, 1)]))
        self.assert_told((row(1, 1), LETTER), [], (ONE, [(ONE, LETTER, 1)]))
        self.assert_told((ONE, raised(LETTER, 3)), [], ((), [(ONE, LETTER, 3)]))
        self.assert_told((row(1, 0, 3), raised(LETTER, 3)), [], ((), [(row(3), LETTER, 1), (ONE, LETTER, 3)]))
        self.assert_told((row(2, 5), C), [A], ((), [(row(2, 5), C, 1)]))
        self.assert_told((row(0, 0, 0, 0, 0, 1), raised(C, 2)), [],
                         (LETTER, [(row(0, -4), C, 1), (row(0, 4), C, 2)]))

    def test_parts_that_only_a_told_row_cuts(self):
        one = (ONE, row(-1, 0, 1))
        self.assert_told(one, [], ((), [(ONE, row(-1, 0, 1), 1)]))
        self.assert_told(one, [B], ((), [(row(HALF), B, 1), (row(-HALF), A, 1)]))
        self.assert_told(one, [(), A], ((), [(row(-HALF), A, 1), (row(HALF), B, 1)]))

    def test_several_parts(self):
        self.assert_told((ONE, product(LETTER, raised(A, 2))), [],
                         ((), [(ONE, LETTER, 1), (row(-1), A, 1), (row(-1), A, 2)]))
        one = pair_of(*together((row(3, 1), ONE), (row(-1), B), (row(HALF), raised(A, 2)), (row(5), raised(A, 4))))
        self.assert_told(one, [], (row(3, 1), [(row(-1), B, 1), (row(HALF), A, 2), (row(5), A, 4)]))

    def test_pieces_come_back(self):
        maker = Maker(13)
        places = [(part, power, most) for part, most in [(B, 1), (A, 2), (C, 3), (D, 3)] for power in range(1, most + 1)]
        for _ in range(80):
            whole, pieces = maker.below(4), []
            for part, power, most in places:
                top = maker.below(len(part))
                if power == most:
                    top = top or ONE
                if top:
                    pieces.append((top, part, power))
            summands = [(top, raised(part, power)) for top, part, power in pieces]
            self.assert_told(pair_of(*together((whole, ONE), *summands)), [product(B, C), ()], (whole, pieces))

    def test_powers_up_to_ten(self):
        for power in range(1, 11):
            one = pair_of(row(*range(1, power + 3)), product(raised(A, power), raised(C, 11 - power)))
            self.assert_apart(one, [])
            self.assert_apart((ONE, raised(D, power)), [A])
            self.assert_told((ONE, raised(D, power)), [A], ((), [(ONE, D, power)]))

    def test_all_powers_up_to_ten_at_once(self):
        bottom = product(*[raised(row(-number, 1), number) for number in range(1, 11)])
        whole, pieces = self.assert_apart((row(3, 1, 4, 1, 5), bottom), [])
        self.assertEqual(whole, ())
        self.assertEqual(pieces[-1][1:], (row(-10, 1), 10))

    def test_quotients_with_a_whole_and_with_none(self):
        bottom = product(A, raised(B, 2))
        for length in range(1, 8):
            one = (row(*[1] * (length - 1), 3), bottom)
            whole, _ = self.assert_apart(one, [A])
            self.assertEqual(len(whole), max(length - 3, 0))

    def test_many_quotients(self):
        maker = Maker(14)
        for _ in range(80):
            one = maker.quotient(4)
            found = parts(one[1], [])
            told = [maker.row(2), (), *[product(part, maker.row(2)) for part, _ in found], maker.below(3)]
            self.assert_apart(one, [])
            self.assert_apart(one, told)

    def test_numbers_of_any_size(self):
        bottom = product(raised(row(HUGE, 1), 2), row(Fraction(1, HUGE), 0, 1), LETTER)
        for top in LARGE[:3] + LARGE[4:]:
            one = pair_of(top, bottom)
            self.assert_apart(one, [])
            self.assert_apart(one, [LETTER, row(HUGE, 1)])

    def test_a_long_quotient(self):
        maker = Maker(15)
        bottom = product(raised(maker.led(5), 2), raised(maker.led(4), 4), maker.led(8))
        self.assert_apart(pair_of(maker.row(40), bottom), [maker.row(3)])


class RefusalTest(unittest.TestCase):
    def test_what_is_no_row_is_refused(self):
        for place, thing in enumerate(NO_ROWS):
            with self.subTest(place=place):
                for told in [[], [LETTER], [()], [thing]]:
                    self.assertRaises(NoRow, parts, thing, told)

    def test_what_is_no_quotient_is_refused(self):
        for place, thing in enumerate(NO_QUOTIENTS):
            with self.subTest(place=place):
                for told in [[], [LETTER], [()], [thing], [None]]:
                    self.assertRaises(NoQuotient, apart, thing, told)

    def test_told_rows_that_are_none(self):
        for place, thing in enumerate(NO_ROWS):
            with self.subTest(place=place):
                for told in [[thing], [LETTER, thing], [thing, LETTER], [(), ONE, thing], [(), thing, thing]]:
                    for one in [LETTER, ONE, product(A, A)]:
                        self.assertRaises(NoRow, parts, one, told)
                    for one in [NOUGHT, (LETTER, ONE), (ONE, product(A, A, B))]:
                        self.assertRaises(NoRow, apart, one, told)

    def test_the_parts_of_nought(self):
        for told in [[], [LETTER], [()], [ONE, (), LETTER]]:
            self.assertRaises(Nought, parts, (), told)

    def test_wrong_told_rows_come_before_nought(self):
        for told in [[None], [LETTER, [(1, 1)]], [(), ((0, 1),)]]:
            self.assertRaises(NoRow, parts, (), told)

    def test_arguments_have_the_names_of_the_interface(self):
        self.assertEqual(parts(row=LETTER, told=[]), [(LETTER, 1)])
        self.assertEqual(apart(one=(LETTER, ONE), told=[]), (LETTER, []))


if __name__ == "__main__":
    unittest.main()
