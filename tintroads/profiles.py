"""Profiles: what a device's colours look like, by curves and a square, or by curves and a grid."""

from tintroads.backs import ways_back
from tintroads.curves import Curve
from tintroads.errors import BadProfile, NoBack
from tintroads.grids import REACH, Grid, refuse_no_device_colour
from tintroads.intents import Ends
from tintroads.shares import is_within, multiplied, share, sum_of
from tintroads.squares import UNIT, led, led_back, refuse_no_colour, refuse_no_square

GREATEST_TO_SQUARE = 1000


def is_curve_to(thing, most):
    """Whether a thing is a curve of a device, to values up to a most."""
    return isinstance(thing, Curve) and thing.last() == REACH and thing.ends()[1] <= most


def is_curves(thing, most):
    """Whether a thing is three curves of a device, to values up to a most."""
    if not isinstance(thing, (list, tuple)) or len(thing) != 3:
        return False
    return all([is_curve_to(curve, most) for curve in thing])


def refuse_no_curves(thing, most):
    """Raise BadProfile of what are no three curves to values up to a most."""
    if not is_curves(thing, most):
        raise BadProfile("a profile has three curves whose last place is 60, and whose values its square or grid takes")


def refuse_no_bounds(thing):
    """Raise BadProfile of what are no ends."""
    if not isinstance(thing, Ends):
        raise BadProfile("the ends of a profile are Ends")


def copied_curves(curves):
    """A new list of like curves."""
    return [Curve(curve.points) for curve in curves]


def copied_ends(ends):
    """Like ends."""
    return Ends(white=ends.white, black=ends.black)


def values_at(curves, colour):
    """The curves' values at a colour's numbers, number by number."""
    return tuple([curve.value(number) for curve, number in zip(curves, colour)])


def places_of(curves, values):
    """The least places that have values, curve by curve."""
    return tuple([curve.back(number) for curve, number in zip(curves, values)])


def are_values(curves, values):
    """Whether each curve has its value."""
    return all([is_within(number, curve.ends()[0], curve.ends()[1]) for curve, number in zip(curves, values)])


class SquareProfile:
    """Three curves to values up to 1000, a square behind them, and ends."""

    def __init__(self, curves, square, *, ends):
        refuse_no_curves(curves, GREATEST_TO_SQUARE)
        refuse_no_bounds(ends)
        refuse_no_square(square)
        self.curves = copied_curves(curves)
        self.square = [list(row) for row in square]
        self.bounds = copied_ends(ends)

    def to_worth(self, colour):
        """The worth of a device's colour."""
        refuse_no_device_colour(colour)
        return led(self.square, values_at(self.curves, colour))

    def from_worth(self, worth):
        """The device's colour that has a worth."""
        # Ahead of the way back, since that is asked of a square without one too.
        refuse_no_colour(worth)
        return places_of(self.curves, led_back(self.square, worth))

    def slopes(self):
        """By how much a worth's number may change at most for each step of the colour, way by way."""
        parts = [share(max([abs(row[way]) for row in self.square]), UNIT) for way in range(3)]
        return [multiplied(part, curve.steepest()) for part, curve in zip(parts, self.curves)]


class GridProfile:
    """Three curves to values up to 60, a grid behind them, and ends."""

    def __init__(self, curves, grid, *, ends):
        refuse_no_curves(curves, REACH)
        refuse_no_bounds(ends)
        if not isinstance(grid, Grid):
            raise BadProfile("the grid of a profile is a Grid")
        self.curves = copied_curves(curves)
        self.grid = Grid(grid.knots, grid.table)
        self.bounds = copied_ends(ends)

    def to_worth(self, colour):
        """The worth of a device's colour."""
        refuse_no_device_colour(colour)
        return self.grid.worth(values_at(self.curves, colour))

    def from_worth(self, worth):
        """The device's colour that has a worth, by the first way back that the curves have."""
        for values in ways_back(self.grid, worth):
            if are_values(self.curves, values):
                return places_of(self.curves, values)
        raise NoBack("no colour of the device has such a worth")

    def slopes(self):
        """By how much a worth's number may change at most for each step of the colour, way by way."""
        part = share(self.grid.widest(), self.grid.size()[1])
        return [multiplied(part, curve.steepest()) for curve in self.curves]


def refuse_no_profile(thing):
    """Raise BadProfile of what is no profile."""
    if not isinstance(thing, (SquareProfile, GridProfile)):
        raise BadProfile("a profile is a SquareProfile or a GridProfile")


def slope_sum(profile):
    """The three slopes together."""
    refuse_no_profile(profile)
    return sum_of(profile.slopes())
