"""Links: a device and an intent together, step by step or sampled into one grid."""

from tintroads.grids import Grid, apart, held, places_below, refuse_no_knots
from tintroads.intents import led_worth, refuse_no_ends, refuse_no_intent, spans, squeezed_measure, white_measure
from tintroads.profiles import refuse_no_profile, slope_sum
from tintroads.shares import added, greatest_of, multiplied, nearest_whole, share


def stepwise(profile, intent, colour, *, there):
    """What an intent makes of a device's colour's worth, from the profile's ends to others."""
    refuse_no_profile(profile)
    return led_worth(profile.to_worth(colour), intent, here=profile.bounds, there=there)


def linked(profile, intent, *, there, knots=4):
    """The grid at whose knots stand the nearest whole numbers of what steps lead to."""
    refuse_no_knots(knots)
    table = {}
    for place in places_below(knots):
        colour = tuple([share(at * apart(knots)) for at in place])
        worth = stepwise(profile, intent, colour, there=there)
        table[place] = tuple([held(nearest_whole(number)) for number in worth])
    return Grid(knots, table)


def measures(intent, here, there):
    """By how much an intent makes numbers greater, number by number; none where it leaves them."""
    pairs = list(zip(spans(here), spans(there)))
    if intent == "white":
        return [white_measure(near, far) for near, far in pairs]
    if intent == "squeezed":
        return [squeezed_measure(near, far) for near, far in pairs]
    return []


def growth(profile, intent, *, there):
    """By how much an intent may make differences of worths greater, 1 at least."""
    refuse_no_profile(profile)
    refuse_no_intent(intent)
    refuse_no_ends(there)
    return greatest_of([share(1)] + measures(intent, profile.bounds, there))


def link_bound(profile, intent, *, there, knots=4):
    """By how much a linked grid's worth may be away from the steps, at most."""
    refuse_no_knots(knots)
    slope = multiplied(slope_sum(profile), growth(profile, intent, there=there))
    # The half is what nearest whole numbers may be away by.
    return added(multiplied(slope, share(apart(knots))), share(1, 2))
