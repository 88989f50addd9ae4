"""What several tests hand in: things of wrong kinds, and a measure to reckon by."""

from fractions import Fraction
from itertools import product

from tintroads.curves import Curve, JoinedCurve
from tintroads.errors import BadNumber
from tintroads.grids import Grid
from tintroads.intents import Ends
from tintroads.shares import share


class Stubborn:
    """An object that neither compares nor shows itself."""

    __hash__ = None

    def __eq__(self, other):
        raise RuntimeError("not to be compared")

    def __repr__(self):
        raise RuntimeError("not to be shown")

    def __len__(self):
        raise RuntimeError("not to be counted")


def endless_list():
    """A list that bears itself."""
    row = []
    row.append(row)
    return row


def deep_tuple():
    """A tuple with many others within one another."""
    deep = (0, 1)
    for _ in range(500):
        deep = (deep, deep)
    return deep


def odd_things(*but):
    """Things that are no whole number, share, colour, square, nor points of a curve; none of the classes told."""
    return [thing for thing in things_of_all_kinds() if not isinstance(thing, but)]


def things_of_all_kinds():
    """Things of all kinds, objects of the program among them."""
    curve = Curve([(0, 0), (10, 10)])
    return [
        None, True, False, "", "0", "(0, 1)", "abc", b"", b"ab", bytearray(b"abc"),
        (), [], {}, set(), frozenset(), range(2), range(3), {0: 1}, {0: 0, 1: 1}, {0, 1, 2},
        (None,), (None, None), (None, None, None), ("a", "b", "c"), [None, None, None],
        (True, 1), (1, True), (False, True), (False, 1), ("0", 1), (0, "1"), (b"a", 1), ((0, 1), 1), (0, (1,)),
        endless_list(), deep_tuple(), (endless_list(), 1), curve, JoinedCurve(curve, curve),
        Grid(2, table_of(2, lambda a, b, c: (a, b, c))), Ends(white=(1, 2, 3)), Grid, Ends,
        Curve, share, len, int, BadNumber, BadNumber("x"), object(), Stubborn(), (Stubborn(), 1), (1, Stubborn()),
        iter([1, 2, 3]), (n for n in (1, 2)),
    ]


def table_of(knots, deed):
    """A table of all knots with what a deed tells of their places."""
    return {place: deed(*place) for place in product(range(knots), repeat=3)}


def mingled(*numbers):
    """A number from 0 to 1000 that has no plain rule, and is always the same for the same numbers."""
    state = 12345
    for number in numbers:
        state = ((state ^ state >> 15) * 2654435761 + number * 40503 + 1) % 2 ** 32
    return (state ^ state >> 13) % 1001


def rough_grid(knots, seed=0, most=1000):
    """A grid whose worths follow no plain rule."""
    def worth(*place):
        return tuple(mingled(seed, at, *place) % (most + 1) for at in range(3))
    return Grid(knots, table_of(knots, worth))


NO_SHARES = [
    0, 1, -1, 7, 10 ** 30, [0, 1], [1, 2], {0: 1}, (0,), (1,), (0, 1, 1), (1, 2, 3),
    (0, 2), (0, -1), (0, 0), (1, 0), (-1, 0), (2, 4), (-2, 4), (6, 3), (5, 5), (1, -2), (-1, -2), (2, -1),
    (True, 2), (3, True), (False, 1), (True, True), ("1", 2), (1, "2"), (1, None), ((1, 2), 1), (1, (2,)), ((1, 2),),
    ((1, 2), (1, 2)), ((0, 1), (0, 1), (0, 1)), [(0, 1), (1, 1)], (10 ** 40, 10 ** 39),
]

COLOUR = ((1, 2), (-3, 1), (0, 1))

NO_COLOURS = [
    0, 5, (0, 1), (1, 2, 3), (0, 0, 0), [1, 2, 3],
    ((0, 1), (0, 1)), ((0, 1), (0, 1), (0, 1), (0, 1)), [(0, 1), (0, 1), (0, 1)], ([0, 1], [0, 1], [0, 1]),
    ((0, 1), (0, 1), 0), (0, (0, 1), (0, 1)), ((0, 1), None, (0, 1)), (((0, 1), (0, 1), (0, 1)),),
    ((2, 4), (0, 1), (0, 1)), ((0, 1), (0, 2), (0, 1)), ((0, 1), (0, 1), (1, 0)), ((0, 1), (0, 1), (1, -1)),
    ((True, 1), (0, 1), (0, 1)), ((0, 1), (1, True), (0, 1)), ((0, 1), (0, 1), (False, True)),
    {0: (0, 1), 1: (0, 1), 2: (0, 1)}, "abc", b"abc", (COLOUR, COLOUR, COLOUR),
]


def told(thing):
    """The Fraction that a share tells, after a look at its form."""
    assert isinstance(thing, tuple) and len(thing) == 2, thing
    top, below = thing
    assert isinstance(top, int) and isinstance(below, int), thing
    assert not isinstance(top, bool) and not isinstance(below, bool), thing
    number = Fraction(top, below)
    assert below > 0 and (number.numerator, number.denominator) == (top, below), thing
    return number


def told_colour(thing):
    """The three Fractions that a tuple of shares tells."""
    assert type(thing) is tuple and len(thing) == 3, thing
    return tuple(told(number) for number in thing)


def as_colour(*numbers):
    """The tuple of shares that numbers are."""
    return tuple(as_share(number) for number in numbers)


def as_share(number):
    """The share that a Fraction or a whole number is."""
    number = Fraction(number)
    return (number.numerator, number.denominator)
