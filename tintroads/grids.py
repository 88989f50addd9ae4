"""Grids: worths at knots, mixed between them by four or by eight."""

from tintroads.errors import BadColour, BadGrid, BadNumber
from tintroads.shares import floor_of, is_tuple_within, is_whole_within, is_within, over_one_below, share
from tintroads.squares import is_colour, whole_sum

FEWEST_KNOTS = 2
MOST_KNOTS = 7
REACH = 60
GREATEST = 1000
GREATEST_IN_ROW = 1000
STEPS = ((1, 0, 0), (0, 1, 0), (0, 0, 1))


def is_knots(thing):
    """Whether a thing is a number of knots that a grid may have each way."""
    return is_whole_within(thing, FEWEST_KNOTS, MOST_KNOTS)


def is_knot(thing, knots):
    """Whether a thing is the place of a knot, where there are so many each way."""
    return is_tuple_within(thing, 3, 0, knots - 1)


def is_worth(thing):
    """Whether a thing is a worth of whole numbers."""
    return is_tuple_within(thing, 3, 0, GREATEST)


def apart(knots):
    """How far knots are apart, where there are so many each way."""
    return REACH // (knots - 1)


def held(number):
    """A whole number held within those of a worth."""
    return min(max(number, 0), GREATEST)


def is_table(thing, knots):
    """Whether a thing is a dict of just all knots, each with a worth."""
    # Every key is a knot and no key stands twice, so none is missing if there are as many keys as knots.
    if not isinstance(thing, dict) or len(thing) != knots ** 3:
        return False
    return all([is_knot(place, knots) and is_worth(worth) for place, worth in thing.items()])


def is_row(thing):
    """Whether a thing is a row of which a grid is sampled."""
    return is_tuple_within(thing, 4, -GREATEST_IN_ROW, GREATEST_IN_ROW)


def is_rows(thing):
    """Whether a thing is the list of rows of which a grid is sampled."""
    return isinstance(thing, list) and len(thing) == 3 and all([is_row(row) for row in thing])


def refuse_no_knots(thing):
    """Raise BadNumber of what is no number of knots."""
    if not is_knots(thing):
        raise BadNumber("a grid has 2 to 7 knots each way")


def refuse_no_device_colour(thing):
    """Raise BadColour of what is no device's colour."""
    if not is_colour(thing) or not all([is_within(number, 0, REACH) for number in thing]):
        raise BadColour("a device's colour is a tuple of three shares from 0 to 60")


def places_below(many):
    """All places of three whole numbers from 0 on that are below a number, rising."""
    numbers = list(range(many))
    return [(a, b, c) for a in numbers for b in numbers for c in numbers]


def moved(place, steps):
    """The place that is so many steps farther each way."""
    return tuple([number + step for number, step in zip(place, steps)])


def parts_by_four(far, whole):
    """Four corners of a cell, each with its part of a colour that is so far of the whole along each way."""
    corner = (0, 0, 0)
    left = whole
    parts = []
    for way in sorted(range(3), key=lambda k: far[k], reverse=True):
        parts.append((corner, left - far[way]))
        corner = moved(corner, STEPS[way])
        left = far[way]
    parts.append((corner, left))
    return parts


def parts_by_eight(far, whole):
    """All eight corners of a cell, each with its part of a colour that is so far of the whole along each way."""
    parts = []
    for corner in places_below(2):
        part = 1
        for beyond, distance in zip(corner, far):
            part *= distance if beyond == 1 else whole - distance
        parts.append((corner, part))
    return parts


WAYS = {"four": parts_by_four, "eight": parts_by_eight}


def is_way(thing):
    """Whether a thing is the name of a way in which worths are mixed."""
    return isinstance(thing, str) and thing in WAYS


class Grid:
    """A grid of 2 to 7 knots each way, with a worth at each of them."""

    def __init__(self, knots, table):
        if not is_knots(knots):
            raise BadGrid("a grid has 2 to 7 knots each way")
        if not is_table(table, knots):
            raise BadGrid("a grid is made of a dict of just all its knots, each with a worth")
        self.knots = knots
        self.table = dict(table)

    def knot(self, place):
        """The worth at a knot, of whole numbers."""
        if not is_knot(place, self.knots):
            raise BadColour("the grid has no such knot")
        return self.table[place]

    def size(self):
        """The pair of how many knots there are each way, and how far they are apart."""
        return (self.knots, apart(self.knots))

    def worth(self, colour, *, way="four"):
        """The worth of a device's colour, of shares."""
        if not is_way(way):
            raise BadColour("worths are mixed by four or by eight")
        refuse_no_device_colour(colour)
        parts_of = WAYS[way]
        steps = [share(top, below * self.size()[1]) for top, below in colour]
        # The last knot of a way begins no cell: it is the far end of the one ahead of it.
        least = tuple([min(floor_of(step), self.knots - 2) for step in steps])
        tops, below = over_one_below(steps)
        far = [top - number * below for top, number in zip(tops, least)]
        return self.mixed(least, parts_of(far, below))

    def mixed(self, least, parts):
        """The sum of the worths at a cell's corners, each by its part of all parts together."""
        worths = [self.knot(moved(least, corner)) for corner, part in parts]
        amounts = [part for corner, part in parts]
        return tuple([share(whole_sum([worth[k] for worth in worths], amounts), sum(amounts)) for k in range(3)])

    def widest(self):
        """The most by which worths of neighbours differ at any number."""
        most = 0
        for place in self.table:
            for step in STEPS:
                # A neighbour that is not there stands for the knot itself: it differs by nothing.
                other = self.table.get(moved(place, step), self.table[place])
                most = max([most] + [abs(one - two) for one, two in zip(self.table[place], other)])
        return most


def refuse_no_grid(thing):
    """Raise BadGrid of what is no grid."""
    if not isinstance(thing, Grid):
        raise BadGrid("a grid is a Grid")


def sampled_number(row, place):
    """The number that a row tells at a knot's place, held within 0 and 1000."""
    return held(row[0] + whole_sum(row[1:], place))


def sampled(knots, rows):
    """The grid of three rows, one for each of a worth's numbers."""
    refuse_no_knots(knots)
    if not is_rows(rows):
        raise BadGrid("a grid is sampled of a list of three tuples of four whole numbers from -1000 to 1000")
    return Grid(knots, {place: tuple([sampled_number(row, place) for row in rows]) for place in places_below(knots)})


def is_grey(colour):
    """Whether a colour's three numbers are alike."""
    return colour[0] == colour[1] and colour[1] == colour[2]
