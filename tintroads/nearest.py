"""The nearest: what is shown for worths that are not reached."""

from tintroads.errors import BadNumber
from tintroads.grids import REACH, places_below, refuse_no_grid
from tintroads.shares import is_less, is_tuple_within, is_whole_within, over_one_below, share
from tintroads.squares import refuse_no_colour

FEWEST_LEVELS = 2
MOST_LEVELS = 7
LEAST_WEIGHT = 1
GREATEST_WEIGHT = 100


def is_weights(thing):
    """Whether a thing is a tuple of three weights."""
    return is_tuple_within(thing, 3, LEAST_WEIGHT, GREATEST_WEIGHT)


def refuse_no_weights(thing):
    """Raise BadNumber of what are no weights."""
    if not is_weights(thing):
        raise BadNumber("weights are a tuple of three whole numbers from 1 to 100")


def refuse_no_levels(thing):
    """Raise BadNumber of what is no number of levels."""
    if not is_whole_within(thing, FEWEST_LEVELS, MOST_LEVELS):
        raise BadNumber("there are 2 to 7 levels")


def colours_of(levels):
    """All device's colours of levels, rising."""
    return [tuple([share(REACH * at, levels - 1) for at in place]) for place in places_below(levels)]


def far_apart(one, other, *, weights=(1, 1, 1)):
    """The sum of the squares of what two worths' numbers differ by, each by its weight."""
    refuse_no_colour(one)
    refuse_no_colour(other)
    refuse_no_weights(weights)
    tops, below = over_one_below(one + other)
    squares = [weight * (here - there) ** 2 for weight, here, there in zip(weights, tops[:3], tops[3:])]
    return share(sum(squares), below ** 2)


def nearest(grid, goal, *, levels=3, weights=(1, 1, 1)):
    """The pair of the device's colour of levels whose worth is least far from a goal, and how far that is."""
    refuse_no_grid(grid)
    refuse_no_colour(goal)
    refuse_no_levels(levels)
    refuse_no_weights(weights)
    best = None
    for colour in colours_of(levels):
        far = far_apart(grid.worth(colour), goal, weights=weights)
        # Colours rise, so of several equally far the least one is there already.
        if best is None or is_less(far, best[1]):
            best = (colour, far)
    return best


def shown_worth(grid, goal, *, levels=3, weights=(1, 1, 1)):
    """The worth of the nearest colour."""
    colour, far = nearest(grid, goal, levels=levels, weights=weights)
    return grid.worth(colour)
