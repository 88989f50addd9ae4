"""Squares: three rows of three whole numbers over 1000, which lead colours."""

from tintroads.errors import BadColour, BadSquare, NoBack
from tintroads.shares import is_share, is_whole_within, multiplied, share, sum_of

GREATEST = 4000
UNIT = 1000


def is_colour(thing):
    """Whether a thing is a tuple of three shares."""
    return isinstance(thing, tuple) and len(thing) == 3 and all([is_share(number) for number in thing])


def is_row(thing):
    """Whether a thing is a row of a square."""
    if not isinstance(thing, (list, tuple)) or len(thing) != 3:
        return False
    return all([is_whole_within(number, -GREATEST, GREATEST) for number in thing])


def is_square(thing):
    """Whether a thing is three rows of a square."""
    return isinstance(thing, (list, tuple)) and len(thing) == 3 and all([is_row(row) for row in thing])


def refuse_no_square(thing):
    """Raise BadSquare of what is no square."""
    if not is_square(thing):
        raise BadSquare("a square is three rows of three whole numbers from -4000 to 4000")


def refuse_no_colour(thing):
    """Raise BadColour of what is no colour."""
    if not is_colour(thing):
        raise BadColour("a colour is a tuple of three shares")


def crossed(one, other):
    """The three differences of products across two rows; the sum of a third row's parts of them is the volume."""
    return [
        one[1] * other[2] - one[2] * other[1],
        one[2] * other[0] - one[0] * other[2],
        one[0] * other[1] - one[1] * other[0],
    ]


def whole_sum(row, other):
    """The sum of the products of two rows of whole numbers, number by number."""
    return sum([part * number for part, number in zip(row, other)])


def share_sum(row, colour):
    """The sum of a row's parts of a colour's numbers, all of them shares."""
    return sum_of([multiplied(part, number) for part, number in zip(row, colour)])


def volume(square):
    """The volume of a square, a whole number."""
    refuse_no_square(square)
    return whole_sum(square[0], crossed(square[1], square[2]))


def led(square, colour):
    """The colour to which a square leads one."""
    refuse_no_square(square)
    refuse_no_colour(colour)
    return tuple([share_sum([share(part, UNIT) for part in row], colour) for row in square])


def way_back(square):
    """The rows of shares that lead each colour back."""
    size = volume(square)
    if size == 0:
        raise NoBack("a square whose volume is nought has no way back")
    a, b, c = square
    columns = [crossed(b, c), crossed(c, a), crossed(a, b)]
    return [[share(UNIT * column[k], size) for column in columns] for k in range(3)]


def led_back(square, colour):
    """The colour that a square leads to this one."""
    rows = way_back(square)
    refuse_no_colour(colour)
    return tuple([share_sum(row, colour) for row in rows])


def together(square, other):
    """The rows of shares that lead as one square, and another one behind it."""
    refuse_no_square(square)
    refuse_no_square(other)
    columns = [[row[k] for row in square] for k in range(3)]
    return [[share(whole_sum(row, column), UNIT * UNIT) for column in columns] for row in other]
