"""Shares: exact parts of whole numbers, tuples (top, below) in lowest terms."""

from tintroads.errors import BadNumber, BadShare


def is_whole(thing):
    """Whether a thing is a whole number; True and False are none."""
    return isinstance(thing, int) and not isinstance(thing, bool)


def is_whole_within(thing, least, most):
    """Whether a thing is a whole number from the least to the most."""
    return is_whole(thing) and least <= thing <= most


def is_tuple_within(thing, many, least, most):
    """Whether a thing is a tuple of so many whole numbers from the least to the most."""
    if not isinstance(thing, tuple) or len(thing) != many:
        return False
    return all([is_whole_within(number, least, most) for number in thing])


def greatest_measure(one, other):
    """The greatest whole number by which both can be parted without a rest."""
    one, other = abs(one), abs(other)
    while other > 0:
        one, other = other, one % other
    return one


def is_share(thing):
    """Whether a thing is a tuple (top, below) in lowest terms, below above 0."""
    if not isinstance(thing, tuple) or len(thing) != 2:
        return False
    top, below = thing
    if not is_whole(top) or not is_whole(below) or below < 1:
        return False
    return greatest_measure(top, below) == 1


def refuse_no_share(thing):
    """Raise BadShare of what is no share."""
    # The words never show the thing: a text of it may be too long to be made.
    if not is_share(thing):
        raise BadShare("a share is a tuple of two whole numbers in lowest terms, the second above 0")


def share(top, below=1):
    """The share of two whole numbers, in lowest terms."""
    if not is_whole(top) or not is_whole(below):
        raise BadNumber("a share is made of whole numbers")
    if below == 0:
        raise BadNumber("below is not nought")
    measure = greatest_measure(top, below)
    if below < 0:
        # A measure below 0 brings the sign from below to the top.
        measure = -measure
    return (top // measure, below // measure)


def added(one, other):
    """The sum of two shares."""
    refuse_no_share(one)
    refuse_no_share(other)
    return share(one[0] * other[1] + other[0] * one[1], one[1] * other[1])


def multiplied(one, other):
    """The product of two shares."""
    refuse_no_share(one)
    refuse_no_share(other)
    return share(one[0] * other[0], one[1] * other[1])


def floor_of(one):
    """The greatest whole number that is not above a share."""
    refuse_no_share(one)
    return one[0] // one[1]


def nearest_whole(one):
    """The whole number nearest to a share, of two the greater."""
    refuse_no_share(one)
    # Half a step up, then down to the floor: so a half always goes up.
    return (2 * one[0] + one[1]) // (2 * one[1])


def is_less(one, other):
    """Whether the first of two shares is the lesser."""
    return one[0] * other[1] < other[0] * one[1]


def sum_of(many):
    """The sum of several shares."""
    total = share(0)
    for one in many:
        total = added(total, one)
    return total


def less_by(one, other):
    """What is left of a share without another one."""
    return added(one, share(-other[0], other[1]))


def over(one, other):
    """A share over another one that is not nought."""
    return share(one[0] * other[1], one[1] * other[0])


def is_within(one, least, most):
    """Whether a share lies from one whole number to another, both counted in."""
    return least * one[1] <= one[0] <= most * one[1]


def over_one_below(numbers):
    """The tops of several shares over one below that they have in common, and that below."""
    below = 1
    for number in numbers:
        below *= number[1]
    return [top * (below // part) for top, part in numbers], below


def least_of(many):
    """The least of several shares."""
    tops, below = over_one_below(many)
    return share(min(tops), below)


def greatest_of(many):
    """The greatest of several shares."""
    tops, below = over_one_below(many)
    return share(max(tops), below)
