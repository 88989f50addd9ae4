"""Curves: straight from point to point, and one behind another."""

from tintroads.errors import BadColour, BadCurve, NoBack
from tintroads.shares import greatest_of, is_less, is_share, is_tuple_within, is_within, share

FEWEST_POINTS = 2
MOST_POINTS = 12
GREATEST = 1000


def is_point(thing):
    """Whether a thing is a pair of a place and a value."""
    return is_tuple_within(thing, 2, 0, GREATEST)


def is_onward(low, high):
    """Whether from one point to the next the place rises and the value does not fall."""
    return low[0] < high[0] and low[1] <= high[1]


def is_points(thing):
    """Whether a thing is a list of points of which a curve can be made."""
    if not isinstance(thing, list) or not FEWEST_POINTS <= len(thing) <= MOST_POINTS:
        return False
    if not all([is_point(point) for point in thing]) or thing[0][0] != 0:
        return False
    return all([is_onward(low, high) for low, high in zip(thing, thing[1:])])


def stretch_to(pairs, at):
    """The first two neighbours the later of which has no first number below a share."""
    k = 1
    while is_less(share(pairs[k][0]), at):
        k += 1
    return pairs[k - 1], pairs[k]


def on_line(low, high, at):
    """The second number where the first one is a share, straight between two pairs."""
    run = high[0] - low[0]
    rise = high[1] - low[1]
    top, below = at
    return share(low[1] * run * below + (top - low[0] * below) * rise, run * below)


class Curve:
    """A curve of 2 to 12 points with rising places and values that never fall."""

    def __init__(self, points):
        if not is_points(points):
            raise BadCurve("a curve is made of a list of 2 to 12 pairs, places rising from 0, values not falling")
        self.points = list(points)

    def value(self, place):
        """The value at a share from 0 to the last place."""
        if not is_share(place) or not is_within(place, 0, self.last()):
            raise BadColour("a place is a share from 0 to the last place of the curve")
        low, high = stretch_to(self.points, place)
        return on_line(low, high, place)

    def back(self, value):
        """The least place that has a value."""
        first, final = self.ends()
        if not is_share(value) or not is_within(value, first, final):
            raise NoBack("the curve has no such value")
        # Apart from the rest, since a flat beginning has no slope to go back along.
        if value == share(first):
            return share(0)
        low, high = stretch_to([(height, place) for place, height in self.points], value)
        return on_line(low, high, value)

    def is_rising(self):
        """Whether values rise from each point to the next."""
        return all([low[1] < high[1] for low, high in zip(self.points, self.points[1:])])

    def steepest(self):
        """The greatest rise of value for each step of place."""
        return greatest_of([
            share(high[1] - low[1], high[0] - low[0]) for low, high in zip(self.points, self.points[1:])
        ])

    def last(self):
        """The last place."""
        return self.points[-1][0]

    def ends(self):
        """The pair of the first and the last value."""
        return (self.points[0][1], self.points[-1][1])


class JoinedCurve:
    """One curve, and another one behind it."""

    def __init__(self, curve, other):
        if not isinstance(curve, Curve) or not isinstance(other, Curve):
            raise BadCurve("two curves are joined")
        if curve.ends()[1] > other.last():
            raise BadCurve("the first curve leads beyond the last place of the other one")
        self.first = Curve(curve.points)
        self.second = Curve(other.points)

    def value(self, place):
        """The second curve's value at the first one's."""
        return self.second.value(self.first.value(place))

    def corners(self):
        """The pairs of places and values between which the joined curve is straight."""
        places = [share(0)]
        for low, high in zip(self.first.points, self.first.points[1:]):
            # The second curve may bend where a rising stretch of the first one passes one of its places.
            passed = [bend for bend, height in self.second.points if low[1] < bend < high[1]]
            places += [self.first.back(share(bend)) for bend in passed]
            places.append(share(high[0]))
        return [(place, self.value(place)) for place in places]
