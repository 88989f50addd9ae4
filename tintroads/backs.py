"""Ways back: the device's colours that have a worth by four."""

from tintroads.grids import places_below, refuse_no_grid
from tintroads.shares import added, is_less, multiplied, over_one_below, share
from tintroads.squares import crossed, refuse_no_colour, volume, whole_sum

ORDERS = ((0, 1, 2), (0, 2, 1), (1, 0, 2), (1, 2, 0), (2, 0, 1), (2, 1, 0))


def parts_of(grid):
    """All parts of a grid's cells, pairs of the cell's least corner and the order of the three ways."""
    return [(least, order) for least in places_below(grid.size()[0] - 1) for order in ORDERS]


def worths_along(grid, least, order):
    """The worths at a part's four corners, a step along each way in turn."""
    place = list(least)
    worths = [grid.knot(least)]
    for way in order:
        place[way] += 1
        worths.append(grid.knot(tuple(place)))
    return worths


def differences(worths):
    """The three rows of what the worths at a part's corners differ by, along its ways."""
    return [[high - low for low, high in zip(one, other)] for one, other in zip(worths, worths[1:])]


def distances(goal, start, rows, size):
    """How far along each of its ways a part would have a goal, also where it ends before that.

    It starts at a worth, its rows of differences have a volume that is not nought, the size.
    """
    tops, below = over_one_below(goal)
    away = [top - number * below for top, number in zip(tops, start)]
    first, second, third = rows
    across = [crossed(second, third), crossed(third, first), crossed(first, second)]
    return [share(whole_sum(away, row), size * below) for row in across]


def is_in_part(far):
    """Whether a part reaches so far along its ways: never farther along one than along the one ahead of it."""
    falling = [share(1)] + far + [share(0)]
    return not any([is_less(one, other) for one, other in zip(falling, falling[1:])])


def colour_at(least, order, far, apart):
    """The device's colour that is so far from a cell's least corner along ordered ways."""
    numbers = [share(0), share(0), share(0)]
    for way, distance in zip(order, far):
        numbers[way] = multiplied(added(share(least[way]), distance), share(apart))
    return tuple(numbers)


def way_in_part(grid, least, order, goal):
    """The device's colour in a part that has a goal by four; None if there is none, or the part is flat."""
    worths = worths_along(grid, least, order)
    rows = differences(worths)
    size = volume(rows)
    if size == 0:
        return None
    far = distances(goal, worths[0], rows, size)
    if not is_in_part(far):
        return None
    return colour_at(least, order, far, grid.size()[1])


def rising(colours):
    """Colours by their first number, then the second, then the third."""
    # Two shares differ by one over the product of their belows at least, so floors of so many times as much differ too.
    scale = max([below for colour in colours for top, below in colour], default=1) ** 2
    return sorted(colours, key=lambda colour: [top * scale // below for top, below in colour])


def ways_back(grid, goal):
    """All device's colours in parts that are not flat that have a worth by four, each once, rising."""
    refuse_no_grid(grid)
    refuse_no_colour(goal)
    found = {}
    for least, order in parts_of(grid):
        colour = way_in_part(grid, least, order, goal)
        if colour is not None:
            # A dict, since on a face several parts tell the same colour.
            found[colour] = True
    return rising(list(found))


def is_reached(grid, goal):
    """Whether a worth has a way back."""
    return len(ways_back(grid, goal)) > 0


def is_flat(grid):
    """Whether any part is flat."""
    refuse_no_grid(grid)
    return any([volume(differences(worths_along(grid, least, order))) == 0 for least, order in parts_of(grid)])
