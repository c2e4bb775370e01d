"""Things that are no fractions, no rows or no quotients, some of which fail when they are touched."""

from fractions import Fraction


class Touchy:
    """Fails at whatever is asked of it."""

    def fail(self, *_):
        raise RuntimeError("touched")

    __eq__ = __ne__ = __lt__ = __len__ = __iter__ = __getitem__ = __bool__ = __hash__ = fail
    __int__ = __index__ = __repr__ = __str__ = fail


class Closed:
    """Fails where one of its attributes is read."""

    def __getattribute__(self, name):
        raise RuntimeError("touched")


class TouchyKind(type):
    """A kind of classes that fail when they are compared."""

    def fail(cls, *_):
        raise RuntimeError("touched")

    __eq__ = __ne__ = __hash__ = __instancecheck__ = fail


class OfTouchyKind(metaclass=TouchyKind):
    """Its class fails when it is compared."""


class Liar:
    """Says that it is a tuple."""

    __class__ = tuple

    def __len__(self):
        return 2


class TouchyTuple(tuple):
    """A tuple that fails when it is measured or read."""

    def fail(self, *_):
        raise RuntimeError("touched")

    __len__ = __iter__ = __getitem__ = __eq__ = __ne__ = fail


class TouchyNumber(int):
    """A whole number that fails when it is compared or reckoned with."""

    def fail(self, *_):
        raise RuntimeError("touched")

    __eq__ = __ne__ = __lt__ = __le__ = __gt__ = __ge__ = __index__ = __bool__ = fail


def endless():
    while True:
        yield 1


def nested(depth):
    thing = ()
    for _ in range(depth):
        thing = (thing,)
    return thing


def looped():
    thing = []
    thing.append(thing)
    return thing


# Neither fractions nor rows.
NEITHER = [
    None, True, False, 0, 1, -1, 10 ** 50, 1.0, 1.5, float("nan"), 1j, "", "ab", "12", b"", b"ab", bytearray(b"ab"),
    [], [1], [1, 2], [(1, 1)], [[1, 1]], [1, 1, 1], {}, {1: 2}, {0: 1, 1: 1}, set(), {1, 2}, frozenset([1, 2]),
    Fraction(1, 2), range(2), range(1, 3), object(), object, int, tuple, len, NotImplemented, Ellipsis, endless(),
    iter([1, 2]), zip([1], [2]), Touchy(), Closed(), OfTouchyKind(), OfTouchyKind, Liar(),
    TouchyTuple([(1, 1), (1, 1)]), TouchyNumber(1), looped(), nested(5), nested(500), (None,), (1,), (0,), (True,),
    (1, 2, 3), (0, 1, 0), (None, None), ("1", "2"), ("a", "b"),
    (1, None), (None, 1), (1, "1"), ("1", 1), (1.0, 1), (1, 1.0), (0, 1.0), (1j, 1), ([1], [1]), (Fraction(1), 1),
    (True, 1), (False, 1), (1, True), (0, True), (True, True), (True, 2), (1, False), (2, 4), (0, 2), (6, 3), (-6, 3),
    (10 ** 60, 10 ** 59), (0, 0), (1, 0), (-1, 0), (1, -1), (-1, -1), (0, -1), (1, -2), (3, -10 ** 40),
    (Touchy(), 1), (1, Touchy()), (Touchy(), Touchy()), (Closed(), 1), (1, Closed()),
    (OfTouchyKind(), 1), (1, OfTouchyKind()), (TouchyNumber(1), 1), (1, TouchyNumber(1)),
    TouchyTuple((1, 2)), (endless(),), ((1, 1), 1), (1, (1, 1)), ((),), ((), ()),
]

# Fractions, none of which is a row.
FRACTIONS = [
    (0, 1), (1, 1), (-1, 1), (2, 1), (1, 2), (-1, 2), (3, 7), (-22, 7), (10 ** 400, 1), (-10 ** 400, 10 ** 400 + 1),
    (1, 10 ** 400), (2 ** 3000 + 1, 2 ** 3000),
]

# Made of fractions, or nearly so, and no rows.
NEARLY_ROWS = [
    ((0, 1),), ((0, 1), (0, 1)), ((1, 1), (0, 1)), ((1, 2), (3, 1), (0, 1)), ((1, 1), (0, 1), (0, 1)),
    [(1, 1)], [(0, 1), (1, 1)], ([1, 1],), ((1, 1), [1, 1]), ([1, 1], (1, 1)), ((2, 2),), ((0, 2), (1, 1)),
    ((1, 1), (2, 4)), ((2, 4), (1, 1)), ((1, 0),), ((1, -1),), ((1, 1), (1, -1)), ((True, 1),), ((1, True),),
    ((1, 1), (True, 1)), ((False, 1), (1, 1)), ((0, True), (1, 1)), ((1.0, 1),), ((1, 1), 1), (1, (1, 1)),
    ((1, 1), None), (None, (1, 1)), ((1, 1, 1),), ((1,),), ((1, 1), ()), (((1, 1),),), (((1, 1), (1, 1)),),
    ((1, 1), Touchy()), (Touchy(), (1, 1)), ((1, 1), TouchyTuple((1, 1))), ((1, 1), (1, TouchyNumber(1))),
    {0: (1, 1)}, {(1, 1): (1, 1)}, {(1, 1)}, iter([(1, 1)]), ((Fraction(1), 1),), (Fraction(1, 2),),
    "((1, 1),)", ((1, 1), True), (False, (1, 1)),
]

ONE = ((1, 1),)
LETTER = ((0, 1), (1, 1))

ROWS = [(), ONE, ((-3, 4),), LETTER, ((1, 1), (1, 1)), ((1, 2), (0, 1), (1, 1)), ((0, 1), (0, 1), (2, 1))]

# Made of rows, or nearly so, and no quotients: the bottom isn't led, is nought, or shares something with the top; there
# are too few or too many rows; something is no row, or the kind is another one.
NEARLY_QUOTIENTS = [
    (ONE, ((2, 1),)), (ONE, ((-1, 1),)), (ONE, ((1, 2),)), ((), ((2, 1),)), (LETTER, ((3, 2),)),
    (ONE, ((0, 1), (2, 1))), (ONE, ((0, 1), (-1, 1))), (ONE, ((1, 1), (1, 1), (1, 2))), ((), ((0, 1), (-1, 1))),
    (ONE, ()), (LETTER, ()), ((), ()), (((2, 1),), ()),
    (LETTER, LETTER), ((), LETTER), ((), ((1, 1), (0, 1), (1, 1))), (((0, 1), (5, 1)), LETTER),
    (((-1, 1), (0, 1), (1, 1)), ((1, 1), (1, 1))), (((1, 1), (1, 1)), ((-1, 1), (0, 1), (1, 1))),
    (((0, 1), (0, 1), (1, 2)), ((0, 1), (1, 1), (1, 1))), (((1, 2), (1, 1)), ((1, 4), (1, 1), (1, 1))),
    (((0, 1), (2, 1)), ((0, 1), (2, 1))),
    (), (ONE,), (LETTER,), (ONE, ONE, ONE), ((), ONE, ()), (ONE, None), (None, ONE), (ONE, True), (False, ONE),
    [ONE, ONE], [(), ONE], ([(1, 1)], ONE), (ONE, [(1, 1)]), (([1, 1],), ONE), (ONE, ([1, 1],)), ([], ONE),
    (((0, 1),), ONE), (((1, 1), (0, 1)), ONE), (ONE, ((1, 1), (0, 1))), (ONE, ((1, 1), (1, 1), (0, 1))),
    (((2, 2),), ONE), (ONE, ((2, 2),)), (((1, 1), (2, 4)), LETTER), (ONE, ((2, 4), (1, 1))), (((1, 0),), ONE),
    (((True, 1),), ONE), (ONE, ((True, 1),)), (ONE, ((1, True),)), (ONE, ((False, 1), (1, 1))),
    (((1.0, 1),), ONE), (ONE, ((1.0, 1),)), ((1, 1), ONE), (ONE, (1, 1)), (ONE, 1), (1, ONE), ((ONE, ONE), ONE),
    (Touchy(), ONE), (ONE, Touchy()), (ONE, Closed()), (OfTouchyKind(), ONE), (TouchyTuple(ONE), ONE),
    (ONE, TouchyTuple(ONE)), TouchyTuple((ONE, ONE)), (ONE, (TouchyTuple((1, 1)),)), (ONE, ((1, TouchyNumber(1)),)),
    {0: ONE, 1: ONE}, {ONE: ONE}, iter([ONE, ONE]), (iter(ONE), ONE), (Fraction(1), ONE), "(((1, 1),), ((1, 1),))",
]

NO_FRACTIONS = NEITHER + NEARLY_ROWS + [()]
NO_ROWS = NEITHER + FRACTIONS + NEARLY_ROWS
NO_QUOTIENTS = NEITHER + FRACTIONS + NEARLY_ROWS + ROWS + NEARLY_QUOTIENTS
