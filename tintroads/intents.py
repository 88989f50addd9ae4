"""Intents: worths led from one white and black to another."""

from tintroads.errors import BadIntent
from tintroads.grids import is_worth
from tintroads.shares import added, is_less, is_within, multiplied, share
from tintroads.squares import refuse_no_colour


class Ends:
    """A white and a black, the white above the black each way."""

    def __init__(self, *, white, black=(0, 0, 0)):
        if not is_worth(white) or not is_worth(black):
            raise BadIntent("a white and a black are tuples of three whole numbers from 0 to 1000")
        if not all([high > low for high, low in zip(white, black)]):
            raise BadIntent("a white is above its black each way")
        self.white = white
        self.black = black


def spans(ends):
    """The black's and the white's number together, number by number."""
    return list(zip(ends.black, ends.white))


# The measures and leads of one number: here and there are pairs of a black's and a white's number.


def white_measure(here, there):
    """There's white by here's."""
    return share(there[1], here[1])


def squeezed_measure(here, there):
    """What there's white is above its black by what here's is."""
    return share(there[1] - there[0], here[1] - here[0])


def led_same(number, here, there):
    """The number as it is."""
    return number


def led_by_white(number, here, there):
    """The number by there's white by here's white."""
    return multiplied(number, white_measure(here, there))


def led_squeezed(number, here, there):
    """The number as far on from black to white there as it is here."""
    above = added(number, share(-here[0]))
    return added(share(there[0]), multiplied(above, squeezed_measure(here, there)))


def led_clipped(number, here, there):
    """The number held within there's black and white."""
    black, white = share(there[0]), share(there[1])
    if is_less(number, black):
        return black
    if is_less(white, number):
        return white
    return number


LEADS = {"same": led_same, "white": led_by_white, "squeezed": led_squeezed, "clipped": led_clipped}


def is_intent(thing):
    """Whether a thing is the name of an intent."""
    return isinstance(thing, str) and thing in LEADS


def refuse_no_intent(thing):
    """Raise BadIntent of what is no intent."""
    if not is_intent(thing):
        raise BadIntent("an intent is same, white, squeezed or clipped")


def refuse_no_ends(thing):
    """Raise BadIntent of what are no ends."""
    if not isinstance(thing, Ends):
        raise BadIntent("ends are Ends")


def led_worth(worth, intent, *, here, there):
    """The worth to which an intent leads one from the ends here to the ends there."""
    refuse_no_colour(worth)
    refuse_no_intent(intent)
    refuse_no_ends(here)
    refuse_no_ends(there)
    lead = LEADS[intent]
    return tuple([lead(number, near, far) for number, near, far in zip(worth, spans(here), spans(there))])


def is_between(worth, ends):
    """Whether no number of a worth is below the black or above the white."""
    refuse_no_colour(worth)
    refuse_no_ends(ends)
    return all([is_within(number, low, high) for number, (low, high) in zip(worth, spans(ends))])
