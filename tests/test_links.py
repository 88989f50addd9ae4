"""Links: promise 13, and promise 1 as far as it speaks of them."""

import unittest
from fractions import Fraction
from itertools import product

from tests.things import (
    INTENTS, NO_COLOURS, NO_INTENTS, NO_KNOT_COUNTS, UNIT, Stubborn, as_colour, led_by_rule, no_ends, no_profiles,
    odd_things, rough_grid, table_of, told, told_colour,
)
from tintroads.curves import Curve
from tintroads.errors import BadColour, BadIntent, BadNumber, BadProfile
from tintroads.grids import Grid, sampled
from tintroads.intents import Ends
from tintroads.links import growth, link_bound, linked, stepwise
from tintroads.profiles import GridProfile, SquareProfile

PLAIN = [(0, 0), (60, 60)]
BENT = [[(0, 0), (20, 10), (40, 10), (60, 60)], [(0, 5), (10, 5), (60, 50)], [(0, 0), (1, 9), (60, 60)]]
STEEP = [[(0, 0), (20, 500), (60, 1000)], [(0, 100), (10, 100), (60, 500)], [(0, 7), (15, 400), (45, 400), (60, 990)]]
MIXED = [[412, 358, 180], [213, 715, 72], [19, 119, 850]]
SIGNED = [[-1000, 2000, 1], [3999, -17, -2500], [0, -4000, 333]]
HERE = {"white": (900, 800, 1000), "black": (100, 0, 50)}
THERE = {"white": (500, 1000, 300), "black": (20, 200, 250)}
WIDE = {"white": (1000, 1000, 1000), "black": (0, 0, 0)}
LOW = {"white": (400, 300, 200), "black": (10, 20, 30)}
NARROW = {"white": (60, 60, 60), "black": (1, 2, 3)}
TOLD_ENDS = [HERE, THERE, WIDE, LOW, NARROW]
APART = {2: 60, 3: 30, 4: 20, 5: 15, 6: 12, 7: 10}


def square_profile(rows, square, told_ends):
    """A square profile."""
    return SquareProfile([Curve(points) for points in rows], square, ends=Ends(**told_ends))


def grid_profile(rows, grid, told_ends):
    """A grid profile."""
    return GridProfile([Curve(points) for points in rows], grid, ends=Ends(**told_ends))


def profiles():
    """Profiles of both kinds, each with what its ends were made of."""
    made = []
    for told_ends in (HERE, WIDE, NARROW):
        made += [(square_profile(STEEP, square, told_ends), told_ends) for square in (UNIT, MIXED, SIGNED)]
        made += [(grid_profile(BENT, rough_grid(knots), told_ends), told_ends) for knots in (2, 5)]
    return made


def gentle_profiles():
    """Profiles of both kinds whose worths differ by little, each with what its ends were made of."""
    rising = sampled(3, [(100, 90, 20, 5), (400, -50, 60, 10), (300, 0, 30, -80)])
    made = []
    for told_ends in (HERE, LOW):
        made.append((square_profile(STEEP, MIXED, told_ends), told_ends))
        made.append((square_profile(BENT, [[2000, 3000, 100], [10, 20, 4000], [0, 900, 800]], told_ends), told_ends))
        made.append((grid_profile(BENT, rough_grid(2, most=300), told_ends), told_ends))
        made.append((grid_profile([PLAIN] * 3, rough_grid(4, seed=3), told_ends), told_ends))
        made.append((grid_profile(BENT, rising, told_ends), told_ends))
    return made


def led_to(worth, intent, here, there):
    """A worth of Fractions led from what ends were made of to others."""
    spans = [zip(told_ends["black"], told_ends["white"]) for told_ends in (here, there)]
    return tuple(led_by_rule(number, intent, near, far) for number, near, far in zip(worth, *spans))


def grown(intent, here, there):
    """How much an intent grows, by the words of the document."""
    if intent == "white":
        rates = [Fraction(far, near) for near, far in zip(here["white"], there["white"])]
    elif intent == "squeezed":
        heights = [[high - low for low, high in zip(ends["black"], ends["white"])] for ends in (here, there)]
        rates = [Fraction(far, near) for near, far in zip(*heights)]
    else:
        rates = []
    return max(rates + [Fraction(1)])


def knots_of(many):
    """All knots with the device's colours for which they stand."""
    return [(place, tuple(APART[many] * at for at in place)) for place in product(range(many), repeat=3)]


def rounded(number):
    """The nearest whole number, of two the greater, held within 0 and 1000."""
    down = number.numerator // number.denominator
    return max(0, min(1000, down + 1 if number - down >= Fraction(1, 2) else down))


class TestStepwise(unittest.TestCase):
    def test_told_by_hand(self):
        profile = square_profile([[(0, 0), (60, 600)]] * 3, UNIT, {"white": (600, 600, 800), "black": (0, 100, 0)})
        there = Ends(white=(300, 900, 1000), black=(100, 500, 250))
        colour = as_colour(15, 30, 60)
        self.assertEqual(stepwise(profile, "same", colour, there=there), as_colour(150, 300, 600))
        self.assertEqual(stepwise(profile, "white", colour, there=there), as_colour(75, 450, 750))
        self.assertEqual(stepwise(profile, "squeezed", colour, there=there),
                         as_colour(150, 660, 250 + 750 * Fraction(3, 4)))
        self.assertEqual(stepwise(profile, "clipped", colour, there=there), as_colour(150, 500, 600))

    def test_both_kinds_and_all_intents(self):
        colours = [as_colour(*colour) for colour in product((0, Fraction(59, 7), 20, 60), repeat=3)]
        for profile, here in profiles():
            for intent, there in product(INTENTS, TOLD_ENDS):
                for colour in colours[::5]:
                    led = stepwise(profile, intent, colour, there=Ends(**there))
                    wanted = led_to(told_colour(profile.to_worth(colour)), intent, here, there)
                    self.assertEqual(told_colour(led), wanted)

    def test_nothing_is_held(self):
        profile = square_profile([[(0, 0), (60, 1000)]] * 3, [[4000, 0, 0], [0, -4000, 0], [0, 0, 1]], WIDE)
        colour = as_colour(60, 60, 60)
        self.assertEqual(stepwise(profile, "same", colour, there=Ends(**LOW)), as_colour(4000, -4000, 1))
        self.assertEqual(stepwise(profile, "white", colour, there=Ends(**LOW)),
                         as_colour(1600, -1200, Fraction(1, 5)))

    def refused(self, error, profile, intent, colour, there):
        with self.assertRaises(error):
            stepwise(profile, intent, colour, there=there)

    def test_no_profile_comes_first(self):
        colour, there = as_colour(1, 2, 3), Ends(**THERE)
        for wrong in no_profiles():
            self.refused(BadProfile, wrong, "same", colour, there)
            self.refused(BadProfile, wrong, "none", colour, there)
            self.refused(BadProfile, wrong, "same", None, there)
            self.refused(BadProfile, wrong, None, as_colour(61, 0, 0), None)

    def test_no_colour_comes_next(self):
        there = Ends(**THERE)
        beyond = [as_colour(61, 0, 0), as_colour(0, 60 + Fraction(1, 10 ** 40), 0), as_colour(0, 0, -1), (1, 2, 3)]
        for profile in (profiles()[0][0], profiles()[3][0]):
            for wrong in odd_things() + NO_COLOURS + beyond + [(Stubborn(), (0, 1), (0, 1))]:
                self.refused(BadColour, profile, "white", wrong, there)
                self.refused(BadColour, profile, "none", wrong, there)
                self.refused(BadColour, profile, None, wrong, None)

    def test_no_intent(self):
        colour, there = as_colour(1, 2, 3), Ends(**THERE)
        for profile in (profiles()[0][0], profiles()[3][0]):
            for wrong in odd_things() + NO_INTENTS:
                self.refused(BadIntent, profile, wrong, colour, there)
                self.refused(BadIntent, profile, wrong, colour, None)
            for wrong, intent in product(no_ends(), INTENTS):
                self.refused(BadIntent, profile, intent, colour, wrong)

    def test_there_is_handed_in_by_its_name(self):
        profile, there = profiles()[0][0], Ends(**THERE)
        with self.assertRaises(TypeError):
            stepwise(profile, "same", as_colour(1, 2, 3), there)
        with self.assertRaises(TypeError):
            stepwise(profile, "same", as_colour(1, 2, 3))


class TestLinked(unittest.TestCase):
    def knots_told(self, profile, here, intent, there, grid, many):
        """Look at every knot of a linked grid."""
        self.assertIsInstance(grid, Grid)
        self.assertEqual(grid.size(), (many, APART[many]))
        for place, colour in knots_of(many):
            led = led_to(told_colour(profile.to_worth(as_colour(*colour))), intent, here, there)
            worth = grid.knot(place)
            self.assertEqual(worth, tuple(rounded(number) for number in led))
            self.assertEqual((type(worth), {type(number) for number in worth}), (tuple, {int}))

    def test_every_knot(self):
        for at, (profile, here) in enumerate(profiles()):
            for intent, there in zip(INTENTS, TOLD_ENDS[at % 2:]):
                for many in (2, 4):
                    grid = linked(profile, intent, there=Ends(**there), knots=many)
                    self.knots_told(profile, here, intent, there, grid, many)

    def test_each_number_of_knots(self):
        for many in APART:
            for profile, here in profiles()[1:5:2]:
                grid = linked(profile, "squeezed", there=Ends(**THERE), knots=many)
                self.knots_told(profile, here, "squeezed", THERE, grid, many)

    def test_four_knots_unless_told(self):
        profile, here = profiles()[1]
        grid = linked(profile, "white", there=Ends(**THERE))
        self.knots_told(profile, here, "white", THERE, grid, 4)

    def test_halves(self):
        # At its knots 20, 40 and 60 it tells 1/2, 1 and 3/2; the second number tells them below nought.
        profile = square_profile([PLAIN] * 3, [[25, 0, 0], [0, -25, 1], [0, 0, 75]], NARROW)
        grid = linked(profile, "same", there=Ends(**WIDE))
        self.assertEqual([grid.knot((at, 0, 0))[0] for at in range(4)], [0, 1, 1, 2])
        self.assertEqual([grid.knot((0, 0, at))[2] for at in range(4)], [0, 2, 3, 5])
        self.assertEqual([grid.knot((0, at, 0))[1] for at in range(4)], [0, 0, 0, 0])
        odd = grid_profile([PLAIN] * 3, Grid(2, table_of(2, lambda a, b, c: (999, 997, 1))), WIDE)
        self.assertEqual(linked(odd, "white", there=Ends(white=(500, 500, 500))).knot((0, 0, 0)), (500, 499, 1))

    def test_thirds(self):
        profile = grid_profile([PLAIN] * 3, Grid(2, table_of(2, lambda a, b, c: (1, 2, 4))), {"white": (300, 300, 300)})
        self.assertEqual(linked(profile, "white", there=Ends(white=(100, 100, 100))).knot((1, 2, 3)), (0, 1, 1))

    def test_held(self):
        rows = [[(0, 0), (60, 1000)]] * 3
        profile = square_profile(rows, [[1001, 0, 0], [0, -1, 0], [0, 0, 4000]], WIDE)
        grid = linked(profile, "same", there=Ends(**WIDE), knots=2)
        self.assertEqual(grid.knot((1, 1, 1)), (1000, 0, 1000))
        self.assertEqual(grid.knot((0, 0, 0)), (0, 0, 0))
        just = linked(square_profile(rows, UNIT, WIDE), "same", there=Ends(**LOW), knots=2)
        self.assertEqual(just.knot((1, 1, 1)), (1000, 1000, 1000))
        # Held within 0 and 1000, not within the ends.
        self.assertEqual(just.knot((0, 1, 0)), (0, 1000, 0))
        beyond = linked(grid_profile([PLAIN] * 3, rough_grid(2), NARROW), "squeezed", there=Ends(**WIDE), knots=2)
        self.assertEqual(max(number for place, colour in knots_of(2) for number in beyond.knot(place)), 1000)

    def test_the_profile_and_ends_stay(self):
        for profile, here in profiles()[1:5:2]:
            colour, there = as_colour(7, 33, 59), Ends(**THERE)
            before = (profile.to_worth(colour), profile.slopes())
            linked(profile, "squeezed", there=there)
            link_bound(profile, "squeezed", there=there)
            self.assertEqual((there.white, there.black), (THERE["white"], THERE["black"]))
            self.assertEqual((profile.to_worth(colour), profile.slopes()), before)

    def test_a_grid_is_no_part_of_its_profile(self):
        profile = grid_profile([PLAIN] * 3, rough_grid(4), WIDE)
        grid = linked(profile, "same", there=Ends(**WIDE))
        self.assertEqual(grid.table, rough_grid(4).table)
        grid.table[(0, 0, 0)] = (0, 0, 0)
        self.assertEqual(profile.to_worth(as_colour(0, 0, 0)), as_colour(*rough_grid(4).knot((0, 0, 0))))


class TestGrowth(unittest.TestCase):
    def test_told_by_hand(self):
        profile = square_profile([PLAIN] * 3, UNIT, {"white": (600, 500, 400), "black": (100, 100, 200)})
        above = Ends(white=(900, 1000, 500), black=(0, 600, 0))
        self.assertEqual(growth(profile, "white", there=above), (2, 1))
        self.assertEqual(growth(profile, "squeezed", there=above), (5, 2))
        below = Ends(white=(599, 400, 300), black=(100, 100, 200))
        self.assertEqual(growth(profile, "white", there=below), (1, 1))
        self.assertEqual(growth(profile, "squeezed", there=below), (1, 1))
        for intent, there in product(("same", "clipped"), (above, below)):
            self.assertEqual(growth(profile, intent, there=there), (1, 1))

    def test_just_above_and_below_1(self):
        profile = square_profile([PLAIN] * 3, UNIT, {"white": (500, 500, 500), "black": (100, 100, 100)})
        for way in range(3):
            for number, wanted in ((499, 1), (500, 1), (501, Fraction(501, 500))):
                white = [400, 400, 400]
                white[way] = number
                got = growth(profile, "white", there=Ends(white=tuple(white)))
                self.assertEqual(told(got), wanted)
            for number, wanted in ((499, 1), (500, 1), (501, Fraction(401, 400))):
                white = [400, 400, 400]
                white[way] = number
                got = growth(profile, "squeezed", there=Ends(white=tuple(white), black=(100, 100, 100)))
                self.assertEqual(told(got), wanted)

    def test_all_ends(self):
        for (profile, here), intent, there in product(profiles()[::3], INTENTS, TOLD_ENDS):
            self.assertEqual(told(growth(profile, intent, there=Ends(**there))), grown(intent, here, there))


class TestLinkBound(unittest.TestCase):
    def test_told_by_hand(self):
        profile = square_profile([PLAIN] * 3, UNIT, NARROW)
        there = Ends(white=(90, 60, 30))
        # Three slopes of 1, knots 20 apart.
        self.assertEqual(link_bound(profile, "same", there=there), (121, 2))
        self.assertEqual(link_bound(profile, "same", there=there, knots=4), (121, 2))
        self.assertEqual(link_bound(profile, "same", there=there, knots=7), (61, 2))
        self.assertEqual(link_bound(profile, "white", there=there, knots=2), (541, 2))
        level = grid_profile([PLAIN] * 3, Grid(2, table_of(2, lambda a, b, c: (5, 6, 7))), NARROW)
        self.assertEqual(link_bound(level, "squeezed", there=Ends(**WIDE)), (1, 2))

    def test_by_slopes_and_growth(self):
        for (profile, here), intent in product(profiles(), INTENTS):
            for many, there in zip(APART, TOLD_ENDS):
                slopes = sum(told(slope) for slope in profile.slopes())
                wanted = slopes * grown(intent, here, there) * APART[many] + Fraction(1, 2)
                self.assertEqual(told(link_bound(profile, intent, there=Ends(**there), knots=many)), wanted)

    def test_no_worth_is_farther_away(self):
        colours = [as_colour(*colour) for colour in product((1, Fraction(19, 2), 25, Fraction(119, 2)), repeat=3)][::3]
        held = 0
        for (profile, here), intent, there, many in product(gentle_profiles(), INTENTS, (WIDE, LOW), (2, 4, 7)):
            ends = Ends(**there)
            led = [stepwise(profile, intent, as_colour(*colour), there=ends) for place, colour in knots_of(many)]
            if not all(0 <= number <= 1000 for worth in led for number in told_colour(worth)):
                continue
            held += 1
            self.near(profile, intent, ends, many, colours)
        self.assertGreater(held, 100)

    def near(self, profile, intent, there, many, colours):
        """Look whether a linked grid is nowhere away from the steps by more than its bound."""
        grid = linked(profile, intent, there=there, knots=many)
        bound = told(link_bound(profile, intent, there=there, knots=many))
        for colour, way in product(colours, ("four", "eight")):
            steps = told_colour(stepwise(profile, intent, colour, there=there))
            for number, wanted in zip(told_colour(grid.worth(colour, way=way)), steps):
                self.assertLessEqual(abs(number - wanted), bound)

    def test_how_near_a_worth_may_come_to_the_bound(self):
        # Flat up to just ahead of a knot: there the linked grid is as far away as it can be.
        profile = square_profile([[(0, 0), (59, 0), (60, 60)]] * 3, [[1000, 1000, 1000]] * 3, WIDE)
        grid = linked(profile, "same", there=Ends(**WIDE), knots=2)
        colour = as_colour(59, 59, 59)
        self.assertEqual(grid.worth(colour), as_colour(177, 177, 177))
        self.assertEqual(stepwise(profile, "same", colour, there=Ends(**WIDE)), as_colour(0, 0, 0))
        self.assertEqual(link_bound(profile, "same", there=Ends(**WIDE), knots=2), (21601, 2))


class TestRefusals(unittest.TestCase):
    def refused(self, error, profile, intent, there, *wrong_knots):
        """Look at the refusals of linked and link_bound, and without knots of growth."""
        for deed in (linked, link_bound):
            for how in [{"knots": wrong} for wrong in wrong_knots] or [{}, {"knots": 2}]:
                with self.assertRaises(error):
                    deed(profile, intent, there=there, **how)
        if not wrong_knots:
            with self.assertRaises(error):
                growth(profile, intent, there=there)

    def test_no_number_of_knots_comes_first(self):
        profile, there = profiles()[0][0], Ends(**THERE)
        wrongs = odd_things() + NO_KNOT_COUNTS
        self.refused(BadNumber, profile, "same", there, *wrongs)
        self.refused(BadNumber, None, "same", there, *wrongs)
        self.refused(BadNumber, profile, "none", there, *wrongs)
        self.refused(BadNumber, None, None, None, *wrongs)

    def test_no_profile_comes_next(self):
        there = Ends(**THERE)
        for wrong in no_profiles():
            self.refused(BadProfile, wrong, "same", there)
            self.refused(BadProfile, wrong, "none", there)
            self.refused(BadProfile, wrong, "same", None)
            self.refused(BadProfile, wrong, None, None)

    def test_no_intent(self):
        there = Ends(**THERE)
        for profile in (profiles()[0][0], profiles()[3][0]):
            for wrong in odd_things() + NO_INTENTS:
                self.refused(BadIntent, profile, wrong, there)
                self.refused(BadIntent, profile, wrong, None)
            for wrong, intent in product(no_ends(), INTENTS):
                self.refused(BadIntent, profile, intent, wrong)

    def test_handed_in_by_their_names(self):
        profile, there = profiles()[0][0], Ends(**THERE)
        for deed in (linked, link_bound, growth):
            with self.assertRaises(TypeError):
                deed(profile, "same", there)
            with self.assertRaises(TypeError):
                deed(profile, "same")
        for deed in (linked, link_bound):
            with self.assertRaises(TypeError):
                deed(profile, "same", 4, there=there)


if __name__ == "__main__":
    unittest.main()
