"""What several tests hand in: things of wrong kinds, and a measure to reckon by."""

from fractions import Fraction

from tintroads.curves import Curve, JoinedCurve
from tintroads.errors import BadNumber
from tintroads.shares import share


class Stubborn:
    """An object that neither compares nor shows itself."""

    __hash__ = None

    def __eq__(self, other):
        raise RuntimeError("not to be compared")

    def __repr__(self):
        raise RuntimeError("not to be shown")

    def __len__(self):
        raise RuntimeError("not to be counted")


def endless_list():
    """A list that bears itself."""
    row = []
    row.append(row)
    return row


def deep_tuple():
    """A tuple with many others within one another."""
    deep = (0, 1)
    for _ in range(500):
        deep = (deep, deep)
    return deep


def odd_things():
    """Things that are no whole number, share, colour, curve, square, nor points of a curve."""
    curve = Curve([(0, 0), (10, 10)])
    return [
        None, True, False, "", "0", "(0, 1)", "abc", b"", b"ab", bytearray(b"abc"),
        (), [], {}, set(), frozenset(), range(2), range(3), {0: 1}, {0: 0, 1: 1}, {0, 1, 2},
        (None,), (None, None), (None, None, None), ("a", "b", "c"), [None, None, None],
        (True, 1), (1, True), (False, True), (False, 1), ("0", 1), (0, "1"), (b"a", 1), ((0, 1), 1), (0, (1,)),
        endless_list(), deep_tuple(), (endless_list(), 1), curve, JoinedCurve(curve, curve),
        Curve, share, len, int, BadNumber, BadNumber("x"), object(), Stubborn(), (Stubborn(), 1), (1, Stubborn()),
        iter([1, 2, 3]), (n for n in (1, 2)),
    ]


NO_SHARES = [
    0, 1, -1, 7, 10 ** 30, [0, 1], [1, 2], {0: 1}, (0,), (1,), (0, 1, 1), (1, 2, 3),
    (0, 2), (0, -1), (0, 0), (1, 0), (-1, 0), (2, 4), (-2, 4), (6, 3), (5, 5), (1, -2), (-1, -2), (2, -1),
    (True, 2), (3, True), (False, 1), (True, True), ("1", 2), (1, "2"), (1, None), ((1, 2), 1), (1, (2,)), ((1, 2),),
    ((1, 2), (1, 2)), ((0, 1), (0, 1), (0, 1)), [(0, 1), (1, 1)], (10 ** 40, 10 ** 39),
]

COLOUR = ((1, 2), (-3, 1), (0, 1))

NO_COLOURS = [
    0, 5, (0, 1), (1, 2, 3), (0, 0, 0), [1, 2, 3],
    ((0, 1), (0, 1)), ((0, 1), (0, 1), (0, 1), (0, 1)), [(0, 1), (0, 1), (0, 1)], ([0, 1], [0, 1], [0, 1]),
    ((0, 1), (0, 1), 0), (0, (0, 1), (0, 1)), ((0, 1), None, (0, 1)), (((0, 1), (0, 1), (0, 1)),),
    ((2, 4), (0, 1), (0, 1)), ((0, 1), (0, 2), (0, 1)), ((0, 1), (0, 1), (1, 0)), ((0, 1), (0, 1), (1, -1)),
    ((True, 1), (0, 1), (0, 1)), ((0, 1), (1, True), (0, 1)), ((0, 1), (0, 1), (False, True)),
    {0: (0, 1), 1: (0, 1), 2: (0, 1)}, "abc", b"abc", (COLOUR, COLOUR, COLOUR),
]


def told(thing):
    """The Fraction that a share tells, after a look at its form."""
    assert isinstance(thing, tuple) and len(thing) == 2, thing
    top, below = thing
    assert isinstance(top, int) and isinstance(below, int), thing
    assert not isinstance(top, bool) and not isinstance(below, bool), thing
    number = Fraction(top, below)
    assert below > 0 and (number.numerator, number.denominator) == (top, below), thing
    return number


def as_share(number):
    """The share that a Fraction or a whole number is."""
    number = Fraction(number)
    return (number.numerator, number.denominator)
