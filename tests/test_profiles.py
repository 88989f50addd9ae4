"""Profiles: promises 11 and 12, and promise 1 as far as it speaks of them."""

import copy
import unittest
from fractions import Fraction
from itertools import product

from tests.things import (
    NO_COLOURS, UNIT, Stubborn, as_colour, no_ends, no_profiles, no_squares, odd_things, rough_grid, straight,
    table_of, told, told_colour,
)
from tintroads.backs import ways_back
from tintroads.curves import Curve, JoinedCurve
from tintroads.errors import BadColour, BadProfile, BadSquare, NoBack
from tintroads.grids import Grid, sampled
from tintroads.intents import Ends
from tintroads.links import stepwise
from tintroads.profiles import GridProfile, SquareProfile, slope_sum

PLAIN = [(0, 0), (60, 60)]
TO_SQUARE = [
    [(0, 0), (20, 500), (60, 1000)],
    [(0, 100), (10, 100), (30, 500), (60, 500)],
    [(0, 7), (15, 400), (45, 400), (60, 1000)],
]
TO_GRID = [
    [(0, 0), (20, 10), (40, 10), (60, 60)],
    [(0, 5), (10, 5), (30, 50), (60, 50)],
    [(0, 0), (1, 30), (59, 31), (60, 60)],
]
STEEPEST_TO_SQUARE = [Fraction(25), Fraction(20), Fraction(40)]
STEEPEST_TO_GRID = [Fraction(5, 2), Fraction(9, 4), Fraction(30)]
MIXED = [[412, 358, 180], [213, 715, 72], [19, 119, 950]]
SIGNED = [[-4000, 3999, 1], [3999, -17, -2500], [0, 4000, 333]]
FLAT = [[1, 2, 3], [4, 5, 6], [7, 8, 9]]
BESIDE = Fraction(1, 10 ** 40)
PLACES = [Fraction(0), Fraction(1, 7), Fraction(1), Fraction(10), Fraction(15), Fraction(41, 2), Fraction(30),
          Fraction(45), 60 - BESIDE, Fraction(60)]
BEYOND = [-BESIDE, Fraction(-1), 60 + BESIDE, Fraction(61), Fraction(10 ** 30)]


def curves_of(rows):
    """Three curves of their points."""
    return [Curve(points) for points in rows]


def ends():
    """Some ends."""
    return Ends(white=(900, 800, 1000), black=(100, 0, 50))


def square_profile(square=None, rows=None):
    """A square profile, with curves that are flat somewhere unless told."""
    return SquareProfile(curves_of(rows or TO_SQUARE), square or MIXED, ends=ends())


def grid_profile(grid, rows=None):
    """A grid profile, with plain curves unless told."""
    return GridProfile(curves_of(rows or [PLAIN] * 3), grid, ends=ends())


def straight_grid(knots=2):
    """A grid each of whose numbers is ten times as much as a colour's."""
    step = 600 // (knots - 1)
    return sampled(knots, [(0, step, 0, 0), (0, 0, step, 0), (0, 0, 0, step)])


def folded(ways):
    """A grid whose numbers rise to 500 at 30 and fall again along some ways, and rise to 1000 along others."""
    def worth(*place):
        return tuple(500 * (at % 2) if way in ways else 500 * at for way, at in enumerate(place))
    return Grid(3, table_of(3, worth))


def led_by(square, values):
    """The numbers to which a square leads Fractions."""
    return tuple(sum(Fraction(part, 1000) * number for part, number in zip(row, values)) for row in square)


def values_at(rows, colour):
    """The values of curves at a colour's numbers."""
    return tuple(straight(points, number) for points, number in zip(rows, colour))


def least_place(points, value):
    """The least place that has a value, by Fractions."""
    found = [Fraction(place) for place, height in points if height == value]
    for (here, low), (there, high) in zip(points, points[1:]):
        if low < value < high:
            found.append(here + Fraction(there - here) * (value - low) / (high - low))
    return min(found)


def least_places(rows, colour):
    """For each number the least place of its curve that has the same value."""
    return tuple(least_place(points, value) for points, value in zip(rows, values_at(rows, colour)))


def some_colours():
    """Device's colours at the ends, at the curves' points and between them."""
    return list(product(PLACES, repeat=3))[::7]


def no_curves():
    """What are no three curves, with values beyond nothing."""
    plain = Curve(PLAIN)
    joined = JoinedCurve(plain, plain)
    short, long = Curve([(0, 0), (59, 60)]), Curve([(0, 0), (61, 60)])
    wrong = [
        5, 3, plain, [plain] * 2, (plain,) * 2, [plain] * 4, (plain,) * 4, [plain], [[plain] * 3], ([plain] * 3,),
        {0: plain, 1: plain, 2: plain}, {plain: 0}, {plain}, "abc", b"abc", PLAIN, [PLAIN] * 3, (PLAIN, PLAIN, PLAIN),
        [[plain], [plain], [plain]], iter([plain] * 3), [Curve] * 3, as_colour(1, 2, 3), MIXED,
    ]
    for other in odd_things(Curve) + [joined, short, long, 5, PLAIN, (plain,), Curve([(0, 0), (60, 60), (61, 60)])]:
        for place in range(3):
            three = [plain, plain, plain]
            three[place] = other
            wrong += [three, tuple(three)]
    return wrong


class TestMaking(unittest.TestCase):
    def refused(self, error, made, curves, middle, bounds):
        with self.assertRaises(error):
            made(curves, middle, ends=bounds)

    def test_lists_and_tuples(self):
        colour = as_colour(30, 20, 10)
        three = curves_of(TO_SQUARE)
        rows = [tuple(row) for row in MIXED]
        wanted = square_profile().to_worth(colour)
        for curves, square in product((three, tuple(three)), (MIXED, rows, tuple(rows), tuple(MIXED))):
            self.assertEqual(SquareProfile(curves, square, ends=ends()).to_worth(colour), wanted)
        three = curves_of(TO_GRID)
        grid = rough_grid(3)
        for curves in (three, tuple(three)):
            profile = GridProfile(curves, grid, ends=ends())
            self.assertEqual(profile.to_worth(colour), grid_profile(grid, TO_GRID).to_worth(colour))

    def test_last_values(self):
        for place in range(3):
            rows = [PLAIN, PLAIN, PLAIN]
            rows[place] = [(0, 0), (60, 1000)]
            self.assertEqual(square_profile(UNIT, rows).to_worth(as_colour(60, 60, 60))[place], (1000, 1))
            for most in (61, 1000):
                rows[place] = [(0, 0), (60, most)]
                square_profile(UNIT, rows)
                self.refused(BadProfile, GridProfile, curves_of(rows), rough_grid(2), ends())
            rows[place] = [(0, 60), (60, 60)]
            grid_profile(rough_grid(2), rows)

    def test_a_curve_that_passes_60_only_just(self):
        rows = [PLAIN, PLAIN, [(0, 0), (59, 60), (60, 61)]]
        self.refused(BadProfile, GridProfile, curves_of(rows), rough_grid(2), ends())

    def test_no_curves(self):
        for wrong in no_curves():
            self.refused(BadProfile, SquareProfile, wrong, UNIT, ends())
            self.refused(BadProfile, GridProfile, wrong, rough_grid(2), ends())

    def test_no_ends(self):
        for wrong in no_ends():
            self.refused(BadProfile, SquareProfile, curves_of(TO_SQUARE), UNIT, wrong)
            self.refused(BadProfile, GridProfile, curves_of(TO_GRID), rough_grid(2), wrong)

    def test_no_square(self):
        for wrong in no_squares() + [rough_grid(2), Curve(PLAIN)]:
            self.refused(BadSquare, SquareProfile, curves_of(TO_SQUARE), wrong, ends())

    def test_no_grid(self):
        for wrong in odd_things(Grid) + [5, MIXED, table_of(2, lambda a, b, c: (a, b, c)), [rough_grid(2)], (2, {})]:
            self.refused(BadProfile, GridProfile, curves_of(TO_GRID), wrong, ends())

    def test_no_profile_comes_ahead_of_no_square(self):
        short = curves_of([PLAIN, PLAIN, [(0, 0), (59, 60)]])
        for wrong in (None, FLAT[:2], [[4001, 0, 0]] + UNIT[1:], rough_grid(2)):
            for curves in (None, [], short, curves_of(TO_SQUARE)[:2]):
                self.refused(BadProfile, SquareProfile, curves, wrong, ends())
                self.refused(BadProfile, SquareProfile, curves, wrong, None)
            self.refused(BadProfile, SquareProfile, curves_of(TO_SQUARE), wrong, None)
            self.refused(BadProfile, SquareProfile, curves_of(TO_SQUARE), wrong, (900, 800, 1000))
            self.refused(BadProfile, GridProfile, short, FLAT, None)

    def test_ends_are_handed_in_by_their_name(self):
        for made, middle in ((SquareProfile, UNIT), (GridProfile, rough_grid(2))):
            with self.assertRaises(TypeError):
                made(curves_of([PLAIN] * 3), middle, ends())
            with self.assertRaises(TypeError):
                made(curves_of([PLAIN] * 3), middle)


class TestCopies(unittest.TestCase):
    def seen(self, profile):
        """What a profile tells."""
        there = Ends(white=(500, 600, 700))
        colours = [as_colour(*colour) for colour in some_colours()[::20]]
        steps = [stepwise(profile, "squeezed", colour, there=there) for colour in colours]
        return (steps, [profile.to_worth(colour) for colour in colours], profile.slopes(), slope_sum(profile))

    def stays(self, made, curves, middle, spoil):
        """Look whether a profile stays as it was while all that was handed in is changed."""
        bounds = ends()
        profile = made(curves, middle, ends=bounds)
        before = self.seen(profile)
        for curve in curves:
            curve.points[0] = (0, 1)
            curve.points[-1] = (60, 2)
        bounds.white, bounds.black = (10, 10, 10), (3, 3, 3)
        spoil(middle)
        self.assertEqual(self.seen(profile), before)
        if isinstance(curves, list):
            curves[0] = None
            curves.clear()
        self.assertEqual(self.seen(profile), before)

    def test_what_was_handed_in_may_be_changed(self):
        def spoil_square(square):
            square[0][0] = 4000
            square[2].clear()
            del square[1]

        def spoil_grid(grid):
            grid.table[(0, 0, 0)] = (1000, 1000, 1000)
            grid.table[(1, 1, 1)] = (0, 0, 0)
            del grid.table[(1, 0, 1)]

        for form in (list, tuple):
            self.stays(SquareProfile, form(curves_of(TO_SQUARE)), copy.deepcopy(MIXED), spoil_square)
            self.stays(GridProfile, form(curves_of(TO_GRID)), rough_grid(3), spoil_grid)

    def test_what_is_handed_in_stays(self):
        square, three, bounds, grid = copy.deepcopy(SIGNED), curves_of(TO_SQUARE), ends(), rough_grid(2)
        before = list(three)
        profile = SquareProfile(three, square, ends=bounds)
        for colour in some_colours()[::30]:
            profile.from_worth(profile.to_worth(as_colour(*colour)))
        profile.slopes()
        GridProfile(curves_of(TO_GRID), grid, ends=bounds).slopes()
        self.assertEqual(square, SIGNED)
        self.assertTrue(len(three) == 3 and all(one is other for one, other in zip(three, before)))
        self.assertEqual([curve.points for curve in three], TO_SQUARE)
        self.assertEqual((bounds.white, bounds.black), ((900, 800, 1000), (100, 0, 50)))
        self.assertEqual(grid.table, rough_grid(2).table)

    def test_lists_that_are_told_are_new(self):
        for profile in (square_profile(), grid_profile(rough_grid(2))):
            wanted = profile.slopes()
            profile.slopes().clear()
            profile.slopes()[0] = (0, 1)
            self.assertEqual(profile.slopes(), wanted)

    def test_what_is_refused_changes_nothing(self):
        for profile, middle in ((square_profile(), UNIT), (grid_profile(rough_grid(2), TO_GRID), rough_grid(3))):
            before = self.seen(profile)
            plain = curves_of([PLAIN] * 3)
            for curves, other, bounds in ((None, middle, ends()), (plain, None, ends()), (plain, middle, None)):
                with self.assertRaises((BadProfile, BadSquare)):
                    profile.__init__(curves, other, ends=bounds)
            for deed in (profile.to_worth, profile.from_worth):
                with self.assertRaises(BadColour):
                    deed([(0, 1), (0, 1), (0, 1)])
            self.assertEqual(self.seen(profile), before)


class TestToWorth(unittest.TestCase):
    def test_told_by_hand(self):
        # Through the curves: 625, 300 and 269.
        profile = square_profile([[1000, 0, 0], [0, -1000, 500], [1, 1, 3]])
        self.assertEqual(profile.to_worth(as_colour(30, 20, 10)), ((625, 1), (-331, 2), (433, 250)))
        # Through the curves: 10, 55/2 and 0; by four the third counts nothing.
        profile = grid_profile(straight_grid(3), TO_GRID)
        self.assertEqual(profile.to_worth(as_colour(30, 20, 0)), as_colour(100, 275, 0))

    def test_square_everywhere(self):
        for square in (UNIT, MIXED, SIGNED, FLAT):
            profile = square_profile(square)
            for colour in some_colours():
                wanted = led_by(square, values_at(TO_SQUARE, colour))
                self.assertEqual(told_colour(profile.to_worth(as_colour(*colour))), wanted)

    def test_grid_everywhere(self):
        for knots in (2, 4, 7):
            grid = rough_grid(knots, seed=knots)
            profile = grid_profile(grid, TO_GRID)
            for colour in some_colours():
                wanted = grid.worth(as_colour(*values_at(TO_GRID, colour)), way="four")
                self.assertEqual(profile.to_worth(as_colour(*colour)), wanted)

    def test_by_four(self):
        grid = Grid(2, {**table_of(2, lambda a, b, c: (0, 0, 0)), (1, 1, 1): (1000, 8, 0)})
        self.assertEqual(grid_profile(grid).to_worth(as_colour(30, 30, 30)), as_colour(500, 4, 0))

    def test_each_number_goes_through_its_own_curve(self):
        for way in range(3):
            rows = [PLAIN, PLAIN, PLAIN]
            rows[way] = [(0, 0), (30, 0), (60, 60)]
            wanted = [40, 40, 40]
            wanted[way] = 20
            self.assertEqual(square_profile(UNIT, rows).to_worth(as_colour(40, 40, 40)), as_colour(*wanted))
            got = grid_profile(straight_grid(), rows).to_worth(as_colour(40, 40, 40))
            self.assertEqual(got, as_colour(*[10 * number for number in wanted]))

    def test_a_worth_may_lie_beyond_0_and_1000(self):
        profile = square_profile([[-4000, 0, 0], [4000, 0, 0], [0, 0, 1000]], [[(0, 0), (60, 1000)]] * 3)
        self.assertEqual(profile.to_worth(as_colour(60, 0, 60)), as_colour(-4000, 4000, 1000))

    def test_refusals(self):
        beyond = [as_colour(*[number if at == way else 1 for at in range(3)]) for number in BEYOND for way in range(3)]
        for profile in (square_profile(), grid_profile(rough_grid(2), TO_GRID)):
            for wrong in odd_things() + NO_COLOURS + beyond + [(30, 20, 10), (Stubborn(), (0, 1), (0, 1))]:
                with self.assertRaises(BadColour):
                    profile.to_worth(wrong)


class BackCase(unittest.TestCase):
    def comes_from(self, profile, worth, colour):
        got = profile.from_worth(as_colour(*worth))
        self.assertEqual(told_colour(got), tuple(colour))
        self.assertEqual(profile.to_worth(got), as_colour(*worth))

    def no_back(self, profile, worth):
        with self.assertRaises(NoBack):
            profile.from_worth(as_colour(*worth))


class TestFromWorthOfSquares(BackCase):
    def test_back_to_least_places(self):
        for square in (UNIT, MIXED, SIGNED):
            profile = square_profile(square)
            for colour in some_colours():
                worth = profile.to_worth(as_colour(*colour))
                self.comes_from(profile, told_colour(worth), least_places(TO_SQUARE, colour))

    def test_flat_stretches(self):
        profile = square_profile(UNIT)
        self.comes_from(profile, (0, 100, 400), (0, 0, 15))
        self.comes_from(profile, (1000, 500, 1000), (60, 30, 60))
        self.comes_from(profile, (500, 100, 7), (20, 0, 0))
        level = square_profile(UNIT, [[(0, 5), (60, 5)], PLAIN, [(0, 1000), (60, 1000)]])
        self.comes_from(level, (5, 60, 1000), (0, 60, 0))

    def test_rising_curves_lead_back_to_the_colour(self):
        rows = [[(0, 0), (20, 500), (60, 1000)], PLAIN, [(0, 7), (1, 8), (60, 900)]]
        profile = square_profile(SIGNED, rows)
        for colour in some_colours():
            self.assertEqual(profile.from_worth(profile.to_worth(as_colour(*colour))), as_colour(*colour))

    def test_beyond_the_curves_values(self):
        profile = square_profile(UNIT)
        lows, highs = (0, 100, 7), (1000, 500, 1000)
        for way in range(3):
            for number in (lows[way] - 1, lows[way] - BESIDE, highs[way] + BESIDE, highs[way] + 1, -(10 ** 30)):
                worth = [300, 300, 300]
                worth[way] = number
                self.no_back(profile, worth)
        doubled = square_profile([[2000, 0, 0], [0, 1000, 0], [0, 0, 1000]], [PLAIN] * 3)
        self.comes_from(doubled, (120, 60, 60), (60, 60, 60))
        self.no_back(doubled, (121, 60, 60))
        self.no_back(doubled, (120, 61, 60))

    def test_a_square_without_a_way_back(self):
        for square in (FLAT, [[0, 0, 0]] * 3, [[5, 0, 7], [5, 0, 7], [1, 2, 3]]):
            profile = square_profile(square)
            for colour in ((0, 0, 0), (30, 20, 10), (60, 60, 60)):
                with self.assertRaises(NoBack):
                    profile.from_worth(profile.to_worth(as_colour(*colour)))

    def test_no_colour_comes_ahead_of_no_back(self):
        for square in (UNIT, FLAT):
            for wrong in odd_things() + NO_COLOURS + [(30, 20, 10), [(5000, 1)] * 3]:
                with self.assertRaises(BadColour):
                    square_profile(square).from_worth(wrong)


class TestFromWorthOfGrids(BackCase):
    def test_back_to_least_places(self):
        for knots in (2, 3):
            profile = grid_profile(straight_grid(knots), TO_GRID)
            for colour in some_colours()[::3]:
                worth = profile.to_worth(as_colour(*colour))
                self.comes_from(profile, told_colour(worth), least_places(TO_GRID, colour))

    def test_the_first_way_back(self):
        profile = grid_profile(folded((0, 1, 2)))
        self.comes_from(profile, (250, 250, 250), (15, 15, 15))
        self.comes_from(profile, (500, 0, 250), (30, 0, 15))
        self.comes_from(grid_profile(folded((1,))), (250, 250, 250), (15, 15, 15))

    def test_the_first_one_that_all_curves_have(self):
        late, early = [(0, 16), (60, 60)], [(0, 0), (60, 44)]
        for rows in product((PLAIN, late), repeat=3):
            profile = grid_profile(folded((0, 1, 2)), rows)
            values = [45 if points == late else 15 for points in rows]
            wanted = [least_place(points, value) for points, value in zip(rows, values)]
            self.comes_from(profile, (250, 250, 250), wanted)
        self.no_back(grid_profile(folded((0,)), [[(0, 16), (60, 44)], PLAIN, PLAIN]), (250, 250, 250))
        self.no_back(grid_profile(folded((0, 1)), [late, [(0, 16), (60, 44)], early]), (250, 250, 250))
        self.comes_from(grid_profile(folded((0, 1)), [late, early, early]), (250, 250, 250),
                        (Fraction(60 * 29, 44), Fraction(60 * 15, 44), Fraction(60 * 15, 44)))

    def test_at_the_ends_of_the_curves_values(self):
        folds = folded((0, 1, 2))
        self.comes_from(grid_profile(folds, [[(0, 15), (60, 60)]] * 3), (250, 250, 250), (0, 0, 0))
        self.comes_from(grid_profile(folds, [[(0, 16), (60, 45)]] * 3), (250, 250, 250), (60, 60, 60))
        self.comes_from(grid_profile(folds, [[(0, 0), (60, 15)]] * 3), (250, 250, 250), (60, 60, 60))
        self.comes_from(grid_profile(folds, [[(0, 15), (60, 15)]] * 3), (250, 250, 250), (0, 0, 0))
        self.no_back(grid_profile(folds, [[(0, 0), (60, 14)]] * 3), (250, 250, 250))
        self.no_back(grid_profile(folds, [[(0, 46), (60, 60)]] * 3), (250, 250, 250))

    def test_by_all_ways_back(self):
        rows = [[(0, 9), (40, 50), (60, 50)], [(0, 0), (30, 20), (60, 55)], [(0, 13), (60, 60)]]
        later = none = 0
        for seed in range(6):
            grid = rough_grid(3, seed=seed, most=300)
            profile = grid_profile(grid, rows)
            for colour in product((Fraction(7), Fraction(33), Fraction(55)), repeat=3):
                worth = grid.worth(as_colour(*colour))
                backs = [told_colour(back) for back in ways_back(grid, worth)]
                fitting = [back for back in backs if all(
                    points[0][1] <= number <= points[-1][1] for points, number in zip(rows, back))]
                if not fitting:
                    none += 1
                    self.no_back(profile, told_colour(worth))
                    continue
                later += fitting[0] != backs[0]
                wanted = [least_place(points, number) for points, number in zip(rows, fitting[0])]
                self.comes_from(profile, told_colour(worth), wanted)
        self.assertTrue(later > 5 and none > 5, (later, none))

    def test_what_no_part_has(self):
        profile = grid_profile(straight_grid(3))
        for worth in ((601, 0, 0), (0, -1, 0), (0, 0, 600 + BESIDE), (-BESIDE, 0, 0), (5000, 5000, 5000)):
            self.no_back(profile, worth)

    def test_flat_grids(self):
        level = grid_profile(Grid(2, table_of(2, lambda a, b, c: (5, 6, 7))))
        self.no_back(level, (5, 6, 7))
        grey = grid_profile(sampled(3, [(0, 100, 100, 100)] * 3))
        self.no_back(grey, (100, 100, 100))
        table = table_of(2, lambda a, b, c: (1000 * a, 1000 * b, 1000 * c))
        # The part that goes along the first way, then the second, then the third is flat, others are not.
        table[(1, 0, 0)] = (500, 500, 0)
        partly = grid_profile(Grid(2, table))
        self.comes_from(partly, (250, 500, 750), (15, 30, 45))
        self.no_back(partly, (750, 500, 250))

    def test_no_colour_comes_ahead_of_no_back(self):
        for grid in (straight_grid(), Grid(2, table_of(2, lambda a, b, c: (5, 6, 7)))):
            for wrong in odd_things() + NO_COLOURS + [(30, 20, 10), [(5000, 1)] * 3]:
                with self.assertRaises(BadColour):
                    grid_profile(grid).from_worth(wrong)


class TestSlopes(unittest.TestCase):
    def told(self, profile, wanted):
        slopes = profile.slopes()
        self.assertEqual((type(slopes), len(slopes)), (list, 3))
        self.assertEqual([told(slope) for slope in slopes], list(wanted))
        self.assertEqual(told(slope_sum(profile)), sum(wanted))

    def test_squares(self):
        self.told(square_profile(UNIT, [PLAIN] * 3), [1, 1, 1])
        self.told(square_profile(UNIT), STEEPEST_TO_SQUARE)
        self.told(square_profile([[0, 0, 0]] * 3), [0, 0, 0])
        greatest = {"MIXED": (412, 715, 950), "SIGNED": (4000, 4000, 2500), "LOW": (3, 5, 7)}
        squares = {"MIXED": MIXED, "SIGNED": SIGNED, "LOW": [[1, -5, -7], [-3, 4, 6], [2, 0, 5]]}
        for name, square in squares.items():
            wanted = [Fraction(number, 1000) * steep for number, steep in zip(greatest[name], STEEPEST_TO_SQUARE)]
            self.told(square_profile(square), wanted)

    def test_a_greatest_number_anywhere(self):
        for row, way, number in product(range(3), range(3), (7, -7)):
            square = [[1, -2, 3], [-1, 2, -3], [1, 1, 1]]
            square[row][way] = number
            wanted = [Fraction(1, 1000), Fraction(2, 1000), Fraction(3, 1000)]
            wanted[way] = Fraction(7, 1000)
            self.told(square_profile(square, [PLAIN] * 3), wanted)

    def test_grids(self):
        for knots, apart in ((2, 60), (3, 30), (4, 20), (7, 10)):
            self.told(grid_profile(straight_grid(knots)), [Fraction(600 // (knots - 1), apart)] * 3)
            grid = rough_grid(knots)
            part = Fraction(grid.widest(), apart)
            self.told(grid_profile(grid, TO_GRID), [part * steep for steep in STEEPEST_TO_GRID])
        self.told(grid_profile(Grid(2, table_of(2, lambda a, b, c: (5, 6, 7)))), [0, 0, 0])
        self.told(grid_profile(rough_grid(2), [[(0, 5), (60, 5)]] * 3), [0, 0, 0])

    def test_no_profile(self):
        for wrong in no_profiles():
            with self.assertRaises(BadProfile):
                slope_sum(wrong)


if __name__ == "__main__":
    unittest.main()
