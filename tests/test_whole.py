"""The whole interface: promise 1, call by call."""

import unittest
from itertools import product

from tests.things import NO_COLOURS, NO_INTENTS, NO_SHARES, UNIT, as_colour, odd_things, rough_grid, things_of_all_kinds
from tintroads import backs, curves, grids, inks, intents, links, nearest, profiles, shares, squares, texts
from tintroads.errors import (
    BadColour, BadCurve, BadGrid, BadInk, BadIntent, BadNumber, BadProfile, BadShare, BadSquare, BadText, NoBack, TintError,
)

COLOUR = as_colour(10, 20, 30)
WORTH = as_colour(100, 200, 300)
WHITE = (900, 800, 1000)
FOUR_INKS = as_colour(100, 90, 80, 70)
POINTS = [(0, 0), (20, 10), (40, 10), (60, 60)]
ROWS = [(0, 100, 0, 0), (0, 0, 100, 0), (0, 0, 0, 100)]
NUMBERS = [-1, 0, 1, 2, 3, 4, 60, 61, 1001, 10 ** 6000]
COMMON_ERRORS = (BadNumber, BadProfile, BadIntent)


def interface():
    """Each call of the interface: its name, itself, what is handed in by place and by name, its refusals in order.

    All but is_grey, which is handed tuples of three alone and refuses nothing.
    """
    curve = curves.Curve(POINTS)
    grid = grids.sampled(4, ROWS)
    ends = intents.Ends(white=WHITE)
    three = [curve, curves.Curve(POINTS), curves.Curve([(0, 0), (60, 60)])]
    square = [list(row) for row in UNIT]
    square_profile = profiles.SquareProfile(three, square, ends=ends)
    grid_profile = profiles.GridProfile(tuple(three), grid, ends=ends)
    joined = curves.JoinedCurve(curve, curve)
    table = {place: grid.knot(place) for place in product(range(4), repeat=3)}
    how = {"levels": 2, "weights": (1, 2, 3)}
    link = {"there": intents.Ends(white=(500, 500, 500), black=(1, 2, 3))}
    calls = [
        ("share", shares.share, [6, -4], {}, (BadNumber,)),
        ("added", shares.added, [(1, 2), (1, 3)], {}, (BadShare,)),
        ("multiplied", shares.multiplied, [(1, 2), (1, 3)], {}, (BadShare,)),
        ("floor_of", shares.floor_of, [(1, 2)], {}, (BadShare,)),
        ("nearest_whole", shares.nearest_whole, [(1, 2)], {}, (BadShare,)),
        ("Curve", curves.Curve, [list(POINTS)], {}, (BadCurve,)),
        ("Curve.value", curve.value, [(7, 2)], {}, (BadColour,)),
        ("Curve.back", curve.back, [(7, 2)], {}, (NoBack,)),
        ("Curve.is_rising", curve.is_rising, [], {}, ()),
        ("Curve.steepest", curve.steepest, [], {}, ()),
        ("Curve.last", curve.last, [], {}, ()),
        ("Curve.ends", curve.ends, [], {}, ()),
        ("JoinedCurve", curves.JoinedCurve, [curve, three[1]], {}, (BadCurve,)),
        ("JoinedCurve.value", joined.value, [(7, 2)], {}, (BadColour,)),
        ("JoinedCurve.corners", joined.corners, [], {}, ()),
        ("volume", squares.volume, [square], {}, (BadSquare,)),
        ("led", squares.led, [square, COLOUR], {}, (BadSquare, BadColour)),
        ("way_back", squares.way_back, [square], {}, (BadSquare, NoBack)),
        ("led_back", squares.led_back, [square, COLOUR], {}, (BadSquare, NoBack, BadColour)),
        ("together", squares.together, [square, [[1, 2, 3], [4, 5, 6], [7, 8, 9]]], {}, (BadSquare,)),
        ("Grid", grids.Grid, [4, table], {}, (BadGrid,)),
        ("Grid.knot", grid.knot, [(1, 2, 3)], {}, (BadColour,)),
        ("Grid.worth", grid.worth, [COLOUR], {"way": "eight"}, (BadColour,)),
        ("Grid.size", grid.size, [], {}, ()),
        ("Grid.widest", grid.widest, [], {}, ()),
        ("sampled", grids.sampled, [3, list(ROWS)], {}, (BadNumber, BadGrid)),
        ("ways_back", backs.ways_back, [grid, WORTH], {}, (BadGrid, BadColour)),
        ("is_reached", backs.is_reached, [grid, WORTH], {}, (BadGrid, BadColour)),
        ("is_flat", backs.is_flat, [grid], {}, (BadGrid,)),
        ("far_apart", nearest.far_apart, [WORTH, COLOUR], {"weights": (1, 2, 3)}, (BadColour, BadNumber)),
        ("nearest", nearest.nearest, [grid, WORTH], how, (BadGrid, BadColour, BadNumber)),
        ("shown_worth", nearest.shown_worth, [grid, WORTH], how, (BadGrid, BadColour, BadNumber)),
        ("Ends", intents.Ends, [], {"white": WHITE, "black": (1, 2, 3)}, (BadIntent,)),
        ("led_worth", intents.led_worth, [WORTH, "squeezed"], {"here": ends, **link}, (BadColour, BadIntent)),
        ("is_between", intents.is_between, [WORTH, ends], {}, (BadColour, BadIntent)),
        ("SquareProfile", profiles.SquareProfile, [three, square], {"ends": ends}, (BadProfile, BadSquare)),
        ("GridProfile", profiles.GridProfile, [three, grid], {"ends": ends}, (BadProfile,)),
        ("with_black", inks.with_black, [COLOUR], {"part": 50}, (BadInk,)),
        ("without_black", inks.without_black, [as_colour(1, 2, 3, 4)], {}, (BadInk,)),
        ("all_ink", inks.all_ink, [FOUR_INKS], {}, (BadInk,)),
        ("limited", inks.limited, [FOUR_INKS], {"most": 200}, (BadInk,)),
        ("black_kept", inks.black_kept, [FOUR_INKS], {"most": 200}, (BadInk,)),
        ("grid_text", texts.grid_text, [grid], {}, (BadGrid,)),
        ("grid_read", texts.grid_read, [texts.grid_text(grid)], {}, (BadText,)),
        ("curve_text", texts.curve_text, [curve], {}, (BadCurve,)),
        ("curve_read", texts.curve_read, ["0 0, 60 60"], {}, (BadText,)),
    ]
    for profile in (square_profile, grid_profile):
        worth = profile.to_worth(COLOUR)
        calls += [
            ("to_worth", profile.to_worth, [COLOUR], {}, (BadColour,)),
            ("from_worth", profile.from_worth, [worth], {}, (BadColour, NoBack)),
            ("slopes", profile.slopes, [], {}, ()),
            ("slope_sum", profiles.slope_sum, [profile], {}, (BadProfile,)),
            ("stepwise", links.stepwise, [profile, "white", COLOUR], link, (BadProfile, BadColour, BadIntent)),
            ("linked", links.linked, [profile, "white"], {**link, "knots": 2}, COMMON_ERRORS),
            ("growth", links.growth, [profile, "white"], link, (BadProfile, BadIntent)),
            ("link_bound", links.link_bound, [profile, "white"], {**link, "knots": 2}, COMMON_ERRORS),
        ]
    return calls


def seen(thing):
    """What a thing holds, all through: to be compared before and after."""
    if isinstance(thing, dict):
        return ["dict"] + [(seen(key), seen(value)) for key, value in thing.items()]
    if isinstance(thing, (list, tuple)):
        return [type(thing).__name__] + [seen(part) for part in thing]
    if type(thing).__module__.startswith("tintroads."):
        return [type(thing).__name__, seen(vars(thing))]
    return (type(thing).__name__, thing)


def wrong_things():
    """Wrong things of all kinds, and some that are right somewhere."""
    right = [COLOUR, WORTH, WHITE, FOUR_INKS, POINTS, ROWS, UNIT, rough_grid(2), "same", "four", "0 0, 60 60"]
    return odd_things() + NO_SHARES + NO_COLOURS + NO_INTENTS + NUMBERS + right


class TestEachCall(unittest.TestCase):
    def test_nothing_that_is_handed_in_is_changed(self):
        for name, deed, handed, named, errors in interface():
            # A method's own object is handed in too.
            own = getattr(deed, "__self__", None)
            before = seen([own, handed, named])
            deed(*handed, **named)
            self.assertEqual(seen([own, handed, named]), before, name)

    def test_the_same_is_told_each_time(self):
        for name, deed, handed, named, errors in interface():
            first = deed(*handed, **named)
            kept = seen(first)
            second = deed(*handed, **named)
            self.assertEqual(seen(second), kept, name)
            if isinstance(first, (list, dict)) or type(first).__module__.startswith("tintroads."):
                self.assertIsNot(first, second, name)

    def test_told_lists_may_be_changed(self):
        for name, deed, handed, named, errors in interface():
            told = deed(*handed, **named)
            if isinstance(told, list):
                kept = seen(told)
                for part in told:
                    if isinstance(part, list):
                        part.clear()
                told.clear()
                self.assertEqual(seen(deed(*handed, **named)), kept, name)

    def test_no_other_error_than_told(self):
        for name, deed, handed, named, errors in interface():
            for at in list(range(len(handed))) + list(named):
                for wrong in wrong_things():
                    places, names = list(handed), dict(named)
                    if isinstance(at, str):
                        names[at] = wrong
                    else:
                        places[at] = wrong
                    try:
                        deed(*places, **names)
                    except TintError as error:
                        self.assertIn(type(error), errors, (name, at))

    def test_of_all_that_fit_it_is_the_first(self):
        for name, deed, handed, named, errors in interface():
            if errors:
                for wrong in (None, True, [], {}, b"", object(), deed):
                    with self.assertRaises(TintError) as caught:
                        deed(*[wrong for part in handed], **{key: wrong for key in named})
                    self.assertIs(type(caught.exception), errors[0], name)

    def test_of_any_two_wrong_things_the_first_that_is_named(self):
        for name, deed, handed, named, errors in interface():
            spots = list(range(len(handed))) + list(named)
            alone = {spot: self.refusal(deed, handed, named, [spot]) for spot in spots}
            for one, other in product(spots, repeat=2):
                wanted = min(errors.index(alone[one]), errors.index(alone[other]))
                got = self.refusal(deed, handed, named, [one, other])
                self.assertEqual(errors.index(got), wanted, (name, one, other))

    def refusal(self, deed, handed, named, spots):
        """The refusal where None is handed in at some places."""
        places = [None if at in spots else part for at, part in enumerate(handed)]
        names = {key: None if key in spots else part for key, part in named.items()}
        with self.assertRaises(TintError) as caught:
            deed(*places, **names)
        return type(caught.exception)

    def test_what_is_refused_changes_nothing(self):
        for name, deed, handed, named, errors in interface():
            own = getattr(deed, "__self__", None)
            for spot in list(range(len(handed))) + list(named):
                before = seen([own, handed, named])
                self.refusal(deed, handed, named, [spot])
                self.assertEqual(seen([own, handed, named]), before, (name, spot))

    def test_true_and_false_are_no_whole_numbers(self):
        for name, deed, handed, named, errors in interface():
            for at, part in list(enumerate(handed)) + list(named.items()):
                for wrong in with_truths(part):
                    places, names = list(handed), dict(named)
                    if isinstance(at, str):
                        names[at] = wrong
                    else:
                        places[at] = wrong
                    with self.assertRaises(TintError):
                        deed(*places, **names)

    def test_all_kinds_stand_among_the_wrong_things(self):
        kinds = {type(thing) for thing in things_of_all_kinds()}
        made = {curves.Curve, curves.JoinedCurve, grids.Grid, intents.Ends, profiles.SquareProfile, profiles.GridProfile}
        self.assertEqual(made - kinds, set())


def with_truths(thing):
    """Things like one, each with True or False in one place for a whole number, however deep within."""
    if type(thing) is int:
        return [True, False]
    if type(thing) is dict:
        # The first keys and worths stand for all.
        made = []
        for key, value in list(thing.items())[:2]:
            others = {name: part for name, part in thing.items() if name != key}
            made += [{**others, key: other} for other in with_truths(value)]
            made += [{**others, other: value} for other in with_truths(key)]
        return made
    if type(thing) not in (list, tuple):
        return []
    made = []
    for at, part in enumerate(thing):
        for other in with_truths(part):
            parts = list(thing)
            parts[at] = other
            made.append(type(thing)(parts))
    return made


if __name__ == "__main__":
    unittest.main()
