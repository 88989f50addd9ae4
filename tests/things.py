"""What several tests hand in: things of wrong kinds, and a measure to reckon by."""

import copy
from fractions import Fraction
from itertools import product

from tintroads.curves import Curve, JoinedCurve
from tintroads.errors import BadNumber
from tintroads.grids import Grid
from tintroads.intents import Ends
from tintroads.profiles import GridProfile, SquareProfile
from tintroads.shares import share


class Stubborn:
    """An object that neither compares nor shows itself."""

    __hash__ = None

    def __eq__(self, other):
        raise RuntimeError("not to be compared")

    def __repr__(self):
        raise RuntimeError("not to be shown")

    def __len__(self):
        raise RuntimeError("not to be counted")


def endless_list():
    """A list that bears itself."""
    row = []
    row.append(row)
    return row


def deep_tuple():
    """A tuple with many others within one another."""
    deep = (0, 1)
    for _ in range(500):
        deep = (deep, deep)
    return deep


def odd_things(*but):
    """Things that are no whole number, share, colour, square, nor points of a curve; none of the classes told."""
    return [thing for thing in things_of_all_kinds() if not isinstance(thing, but)]


def things_of_all_kinds():
    """Things of all kinds, objects of the program among them."""
    curve = Curve([(0, 0), (10, 10)])
    grid = Grid(2, table_of(2, lambda a, b, c: (a, b, c)))
    ends = Ends(white=(1, 2, 3))
    curves = [Curve([(0, 0), (60, 60)])] * 3
    return [
        None, True, False, "", "0", "(0, 1)", "abc", b"", b"ab", bytearray(b"abc"),
        (), [], {}, set(), frozenset(), range(2), range(3), {0: 1}, {0: 0, 1: 1}, {0, 1, 2},
        (None,), (None, None), (None, None, None), ("a", "b", "c"), [None, None, None],
        (True, 1), (1, True), (False, True), (False, 1), ("0", 1), (0, "1"), (b"a", 1), ((0, 1), 1), (0, (1,)),
        endless_list(), deep_tuple(), (endless_list(), 1), curve, JoinedCurve(curve, curve),
        grid, ends, SquareProfile(curves, UNIT, ends=ends), GridProfile(curves, grid, ends=ends), Grid, Ends,
        SquareProfile, GridProfile, Curve, share, len, int, BadNumber, BadNumber("x"), object(), Stubborn(), (Stubborn(), 1), (1, Stubborn()),
        iter([1, 2, 3]), (n for n in (1, 2)),
    ]


def table_of(knots, deed):
    """A table of all knots with what a deed tells of their places."""
    return {place: deed(*place) for place in product(range(knots), repeat=3)}


def mingled(*numbers):
    """A number from 0 to 1000 that has no plain rule, and is always the same for the same numbers."""
    state = 12345
    for number in numbers:
        state = ((state ^ state >> 15) * 2654435761 + number * 40503 + 1) % 2 ** 32
    return (state ^ state >> 13) % 1001


def rough_grid(knots, seed=0, most=1000):
    """A grid whose worths follow no plain rule."""
    def worth(*place):
        return tuple(mingled(seed, at, *place) % (most + 1) for at in range(3))
    return Grid(knots, table_of(knots, worth))


NO_SHARES = [
    0, 1, -1, 7, 10 ** 30, [0, 1], [1, 2], {0: 1}, (0,), (1,), (0, 1, 1), (1, 2, 3),
    (0, 2), (0, -1), (0, 0), (1, 0), (-1, 0), (2, 4), (-2, 4), (6, 3), (5, 5), (1, -2), (-1, -2), (2, -1),
    (True, 2), (3, True), (False, 1), (True, True), ("1", 2), (1, "2"), (1, None), ((1, 2), 1), (1, (2,)), ((1, 2),),
    ((1, 2), (1, 2)), ((0, 1), (0, 1), (0, 1)), [(0, 1), (1, 1)], (10 ** 40, 10 ** 39),
]

COLOUR = ((1, 2), (-3, 1), (0, 1))

NO_COLOURS = [
    0, 5, (0, 1), (1, 2, 3), (0, 0, 0), [1, 2, 3],
    ((0, 1), (0, 1)), ((0, 1), (0, 1), (0, 1), (0, 1)), [(0, 1), (0, 1), (0, 1)], ([0, 1], [0, 1], [0, 1]),
    ((0, 1), (0, 1), 0), (0, (0, 1), (0, 1)), ((0, 1), None, (0, 1)), (((0, 1), (0, 1), (0, 1)),),
    ((2, 4), (0, 1), (0, 1)), ((0, 1), (0, 2), (0, 1)), ((0, 1), (0, 1), (1, 0)), ((0, 1), (0, 1), (1, -1)),
    ((True, 1), (0, 1), (0, 1)), ((0, 1), (1, True), (0, 1)), ((0, 1), (0, 1), (False, True)),
    {0: (0, 1), 1: (0, 1), 2: (0, 1)}, "abc", b"abc", (COLOUR, COLOUR, COLOUR),
]

UNIT = [[1000, 0, 0], [0, 1000, 0], [0, 0, 1000]]
NO_SQUARES = [
    0, 9, 1000, (0, 1), [], [[]], [[], [], []], UNIT[0], (1, 2, 3), COLOUR,
    UNIT[:2], UNIT + [UNIT[0]], [UNIT], [row[:2] for row in UNIT], [row + [0] for row in UNIT],
    [UNIT[0], UNIT[1], UNIT[2][:2]], [UNIT[0], UNIT[1], 5], [UNIT[0], UNIT[1], None], [UNIT[0], UNIT[1], "abc"],
    [UNIT[0], UNIT[1], {0: 0, 1: 0, 2: 1000}], {0: UNIT[0], 1: UNIT[1], 2: UNIT[2]}, [UNIT, UNIT, UNIT],
    ["abc", "abc", "abc"], [b"abc", b"abc", b"abc"], "abc", b"abc", [range(3), range(3), range(3)],
    [[(0, 1)] * 3] * 3,
]
NO_KNOT_COUNTS = [1, 8, 0, -1, -2, 9, 10 ** 6000, -(10 ** 6000), "3", (3, 1), (3,), [3], b"3", {3: 3}, (2, 2, 2)]
INTENTS = ("same", "white", "squeezed", "clipped")
NO_INTENTS = [
    "", "Same", "same ", " white", "WHITE", "squeeze", "clip", "clippedd", "s", "same\n", "white,clipped",
    b"same", ("same",), ["white"], {"same": "same"}, {"clipped"}, 0, 1, 5, (0, 1), INTENTS, list(INTENTS),
]


def with_number(number, row, place):
    """The unit square with another number somewhere."""
    square = copy.copy(UNIT)
    square[row] = list(square[row])
    square[row][place] = number
    return square


def no_squares():
    """What is no square, with wrong numbers at every place too."""
    wrong = odd_things() + NO_SQUARES
    for row in range(3):
        for place in range(3):
            for number in (4001, -4001, 10 ** 6000, True, False, None, "5", (5, 1), [5]):
                wrong.append(with_number(number, row, place))
    return wrong


def no_ends():
    """What are no Ends."""
    ends = Ends(white=(900, 800, 1000))
    others = [5, (900, 800, 1000), ((900, 800, 1000), (0, 0, 0)), {"white": (900, 800, 1000)}, [ends], (ends, ends)]
    return odd_things(Ends) + others


def no_profiles():
    """What are no profiles."""
    profile = SquareProfile([Curve([(0, 0), (60, 60)])] * 3, UNIT, ends=Ends(white=(900, 800, 1000)))
    return odd_things(SquareProfile, GridProfile) + [5, UNIT, [profile], (profile, profile), {0: profile}]


def straight(points, place):
    """The value at a place of points between which it is straight, by Fractions."""
    for (here, low), (there, high) in zip(points, points[1:]):
        if here <= place <= there:
            return low + Fraction(high - low) * (place - here) / (there - here)
    raise AssertionError(place)


def led_by_rule(number, intent, here, there):
    """One number led, by the words of the document, from a black and a white here to others there."""
    if intent == "white":
        return number * there[1] / here[1]
    if intent == "squeezed":
        return there[0] + (there[1] - there[0]) * (number - here[0]) / Fraction(here[1] - here[0])
    if intent == "clipped":
        return max(there[0], min(there[1], number))
    return number


def told(thing):
    """The Fraction that a share tells, after a look at its form."""
    assert isinstance(thing, tuple) and len(thing) == 2, thing
    top, below = thing
    assert isinstance(top, int) and isinstance(below, int), thing
    assert not isinstance(top, bool) and not isinstance(below, bool), thing
    number = Fraction(top, below)
    assert below > 0 and (number.numerator, number.denominator) == (top, below), thing
    return number


def told_colour(thing):
    """The three Fractions that a tuple of shares tells."""
    assert type(thing) is tuple and len(thing) == 3, thing
    return tuple(told(number) for number in thing)


def as_colour(*numbers):
    """The tuple of shares that numbers are."""
    return tuple(as_share(number) for number in numbers)


def as_share(number):
    """The share that a Fraction or a whole number is."""
    number = Fraction(number)
    return (number.numerator, number.denominator)
