"""Inks: black for three of them, and a limit for four."""

from tintroads.errors import BadInk
from tintroads.shares import (
    added, is_less, is_share, is_whole_within, is_within, least_of, less_by, multiplied, over, share, sum_of,
)

FULL = 100
HUNDRED = 100
GREATEST_LIMIT = 400


def is_ink(thing):
    """Whether a thing is a share of ink."""
    return is_share(thing) and is_within(thing, 0, FULL)


def refuse_no_inks(thing, many):
    """Raise BadInk of what are not so many inks."""
    if not isinstance(thing, tuple) or len(thing) != many or not all([is_ink(ink) for ink in thing]):
        raise BadInk("inks are a tuple of three or four shares from 0 to 100, as it is asked for")


def refuse_no_limit(thing):
    """Raise BadInk of what is no most of all ink."""
    if not is_whole_within(thing, 0, GREATEST_LIMIT):
        raise BadInk("the most of all ink is a whole number from 0 to 400")


def made_less(inks, most):
    """Inks by one measure, so that all together are just a most; as they are if they are no more."""
    total = sum_of(inks)
    if not is_less(most, total):
        return inks
    measure = over(most, total)
    return tuple([multiplied(ink, measure) for ink in inks])


def with_black(inks, *, part=100):
    """Four inks for three: so many hundredths of what all three have are black."""
    refuse_no_inks(inks, 3)
    if not is_whole_within(part, 0, HUNDRED):
        raise BadInk("a part is a whole number of hundredths from 0 to 100")
    black = multiplied(least_of(inks), share(part, HUNDRED))
    return tuple([less_by(ink, black) for ink in inks] + [black])


def without_black(inks):
    """Three inks for four: the black is in each of them."""
    refuse_no_inks(inks, 4)
    three = tuple([added(ink, inks[3]) for ink in inks[:3]])
    if not all([is_ink(ink) for ink in three]):
        raise BadInk("with its black an ink would be more than 100")
    return three


def all_ink(inks):
    """Four inks together."""
    refuse_no_inks(inks, 4)
    return sum_of(inks)


def limited(inks, *, most=300):
    """Four inks, all made less by one measure if together they are more than the most."""
    refuse_no_inks(inks, 4)
    refuse_no_limit(most)
    return made_less(inks, share(most))


def black_kept(inks, *, most=300):
    """Four inks, the three but the black made less by one measure if all together are more than the most."""
    refuse_no_inks(inks, 4)
    refuse_no_limit(most)
    black = least_of([inks[3], share(most)])
    return made_less(inks[:3], less_by(share(most), black)) + (black,)
