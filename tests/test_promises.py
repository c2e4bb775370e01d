"""What the points 1 and 10 promise over the whole program."""

import copy
import itertools
import unittest

from fractionparts.errors import NoQuotient, NoRow, Nought
from fractionparts.growing import growth
from fractionparts.parting import apart, parts
from fractionparts.quotients import joined, quotient, rated
from fractionparts.rows import divided, plus, rate, times
from fractionparts.sharing import common
from tests.reckoning import LETTER, NOUGHT, ONE, product, raised, row

A, B = row(1, 1), row(-1, 1)
BOTTOM = product(A, B, raised(LETTER, 2))

# Each function with the kinds of its arguments, and the places of those by which it raises Nought.
FUNCTIONS = [
    (plus, ["row", "row"]), (times, ["row", "row"]), (divided, ["row", "row"]), (rate, ["row"]),
    (common, ["row", "row"]), (quotient, ["row", "row"]), (joined, ["quotient", "quotient"]), (rated, ["quotient"]),
    (parts, ["row", "told"]), (apart, ["quotient", "told"]), (growth, ["quotient"]),
]

RIGHT = {
    "row": [(), ONE, LETTER, BOTTOM],
    "quotient": [NOUGHT, (LETTER, ONE), (ONE, BOTTOM)],
    "told": [[], [()], [A, (), ONE, row(0, 5)]],
}

# What is wrong, with the error by which it is refused.
WRONG = {
    "row": [(thing, NoRow) for thing in [None, [], [(1, 1)], ((0, 1),), ((2, 2),), NOUGHT, (LETTER, ONE)]],
    "quotient": [(thing, NoQuotient) for thing in [None, (), ONE, [LETTER, ONE], (ONE, ()), (A, A), (ONE, row(0, 2)),
                                                   (((0, 1),), ONE)]],
    "told": [(told, NoRow) for told in [[None], [A, (), ((0, 1),)], [[(1, 1)], A], [A, NOUGHT, None]]],
}


def noughts(function, arguments):
    """Whether Nought is due where all of the arguments are right."""
    if function in [divided, quotient]:
        return arguments[1] == ()
    return function is parts and arguments[0] == ()


class RefusalTest(unittest.TestCase):
    def test_the_first_wrong_thing_is_the_one_that_is_refused(self):
        for function, kinds in FUNCTIONS:
            choices = [[(thing, None) for thing in RIGHT[kind]] + WRONG[kind] for kind in kinds]
            for choice in itertools.product(*choices):
                arguments = [copy.deepcopy(thing) for thing, _ in choice]
                errors = [error for _, error in choice if error]
                with self.subTest(function=function.__name__, arguments=arguments):
                    if errors:
                        self.assertRaises(errors[0], function, *arguments)
                    elif noughts(function, arguments):
                        self.assertRaises(Nought, function, *arguments)
                    else:
                        function(*arguments)
                    self.assertEqual(arguments, [thing for thing, _ in choice])

    def test_just_one_kind_of_error(self):
        # Each is refused by its own error, none of them below another.
        for function, arguments, wanted in [
            (parts, [None, [None]], NoRow), (apart, [None, [None]], NoQuotient), (apart, [NOUGHT, [None]], NoRow),
            (parts, [(), [None]], NoRow), (parts, [(), []], Nought), (quotient, [None, ()], NoRow),
            (quotient, [(), ()], Nought), (joined, [(), NOUGHT], NoQuotient), (growth, [(ONE, ())], NoQuotient),
        ]:
            with self.assertRaises(wanted) as caught:
                function(*arguments)
            self.assertIs(type(caught.exception), wanted)


class OwnTest(unittest.TestCase):
    def test_what_is_handed_in_is_not_changed(self):
        told = [A, (), LETTER, row(3), A]
        before = list(told)
        parts(BOTTOM, told)
        apart((row(1, 2, 3, 4, 5, 6), BOTTOM), told)
        self.assertEqual(told, before)
        for place, thing in enumerate(told):
            self.assertIs(thing, before[place])
        self.assertRaises(Nought, parts, (), told)
        self.assertRaises(NoQuotient, apart, (A, A), told)
        self.assertEqual(told, before)

    def test_wrong_told_lists_are_not_changed(self):
        for told in [[A, [(0, 1)], None], [[[1, 1]]], [LETTER, ((0, 1),)]]:
            before = copy.deepcopy(told)
            self.assertRaises(NoRow, parts, BOTTOM, told)
            self.assertRaises(NoRow, apart, (ONE, BOTTOM), told)
            self.assertEqual(told, before)

    def test_what_is_told_is_the_askers_own(self):
        told = [A, LETTER]
        one = (row(1, 2, 3, 4, 5, 6), BOTTOM)
        asked = [lambda: parts(BOTTOM, told), lambda: apart(one, told)[1]]
        wanted = [list(ask()) for ask in asked]
        for _ in range(2):
            first = [ask() for ask in asked]
            second = [ask() for ask in asked]
            for before, behind in zip(first, second):
                self.assertIsNot(before, behind)
                before.clear()
                before.append("other")
            self.assertEqual(second, wanted)
        self.assertEqual([ask() for ask in asked], wanted)

    def test_empty_lists_are_the_askers_own(self):
        asked = [lambda: parts(ONE, []), lambda: apart((LETTER, ONE), [])[1]]
        for ask in asked:
            ask().append("other")
            self.assertEqual(ask(), [])

    def test_changes_of_the_told_list_later_matter_only_later(self):
        told = [A]
        found = parts(product(A, B), told)
        _, pieces = apart((ONE, product(A, B)), told)
        told.clear()
        self.assertEqual(found, [(A, 1), (B, 1)])
        self.assertEqual([part for _, part, _ in pieces], [A, B])
        self.assertEqual(parts(product(A, B), told), [(product(A, B), 1)])

    def test_an_answer_may_be_told_again(self):
        found = parts(BOTTOM, [A])
        told = [part for part, _ in found]
        self.assertEqual(parts(BOTTOM, told), parts(BOTTOM, list(told)))
        self.assertEqual(found, parts(BOTTOM, [A]))

    def test_the_same_is_told_at_each_asking(self):
        one = (row(1, 2, 3, 4, 5, 6), BOTTOM)
        for ask in [lambda: common(BOTTOM, product(A, A)), lambda: growth(one), lambda: rated(one),
                    lambda: joined(one, one), lambda: quotient(BOTTOM, A)]:
            self.assertEqual([ask() for _ in range(3)], [ask()] * 3)


if __name__ == "__main__":
    unittest.main()
