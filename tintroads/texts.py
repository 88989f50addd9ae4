"""Texts: grids and curves written, and read just as they are written."""

from tintroads.curves import Curve, is_points
from tintroads.errors import BadCurve, BadText
from tintroads.grids import FEWEST_KNOTS, MOST_KNOTS, Grid, is_worth, places_below, refuse_no_grid

FIGURES = "0123456789"
# No number of a grid or a curve has more figures; Python reads none that has very many.
MOST_FIGURES = 4


def refuse_no_text(thing):
    """Raise BadText of what is no text."""
    if not isinstance(thing, str):
        raise BadText("a text is read")


def numbers_text(numbers):
    """Whole numbers with a blank between."""
    return " ".join([str(number) for number in numbers])


def is_number(word):
    """Whether a word is a number in figures, without needless noughts, that a grid or a curve might have."""
    if not 1 <= len(word) <= MOST_FIGURES or not all([sign in FIGURES for sign in word]):
        return False
    return word == "0" or word[0] != "0"


def numbers_read(text):
    """The tuple of whole numbers that are written with a blank between."""
    words = text.split(" ")
    if not all([is_number(word) for word in words]):
        raise BadText("numbers are written in figures, with one blank between")
    return tuple([int(word) for word in words])


def knots_row(knots):
    """The row that tells how many knots a grid has."""
    return f"knots {knots}"


def knots_read(row):
    """How many knots a row tells."""
    for knots in range(FEWEST_KNOTS, MOST_KNOTS + 1):
        if row == knots_row(knots):
            return knots
    raise BadText("a grid's first row tells its 2 to 7 knots")


def row_start(place):
    """What a knot's row begins with."""
    return f"{numbers_text(place)}: "


def worth_read(row, place):
    """The worth that a knot's row tells."""
    start = row_start(place)
    if not row.startswith(start):
        raise BadText("a grid's rows begin with its knots, in order")
    worth = numbers_read(row[len(start):])
    if not is_worth(worth):
        raise BadText("a worth is three numbers from 0 to 1000")
    return worth


def grid_text(grid):
    """A grid, written."""
    refuse_no_grid(grid)
    rows = [row_start(place) + numbers_text(grid.knot(place)) for place in places_below(grid.knots)]
    return "\n".join([knots_row(grid.knots)] + rows)


def grid_read(text):
    """The grid that is written so."""
    refuse_no_text(text)
    first, *rows = text.split("\n")
    knots = knots_read(first)
    places = places_below(knots)
    if len(rows) != len(places):
        raise BadText("a grid has a row for each of its knots")
    return Grid(knots, {place: worth_read(row, place) for place, row in zip(places, rows)})


def curve_text(curve):
    """A curve, written."""
    if not isinstance(curve, Curve):
        raise BadCurve("a curve is a Curve")
    return ", ".join([numbers_text(point) for point in curve.points])


def curve_read(text):
    """The curve that is written so."""
    refuse_no_text(text)
    points = [numbers_read(point) for point in text.split(", ")]
    if not is_points(points):
        raise BadText("a curve is 2 to 12 pairs, places rising from 0, values not falling")
    return Curve(points)
