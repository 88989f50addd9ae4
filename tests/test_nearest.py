"""The nearest: promise 9, and promise 1 as far as it speaks of it."""

import unittest
from fractions import Fraction
from itertools import product

from tests.things import (
    NO_COLOURS, Stubborn, as_colour, as_share, odd_things, rough_grid, table_of, told, told_colour,
)
from tintroads.errors import BadColour, BadGrid, BadNumber
from tintroads.grids import Grid, sampled
from tintroads.nearest import far_apart, nearest, shown_worth

HUGE = 10 ** 30
GOALS = [
    (0, 0, 0), (1000, 1000, 1000), (500, 250, 125), (Fraction(1, 3), Fraction(1999, 2), 7), (-5000, 0, 5000),
    (Fraction(HUGE + 1, HUGE), Fraction(-1, 3 ** 50), 2 * HUGE),
]
WEIGHTS = [(1, 1, 1), (100, 1, 1), (1, 100, 1), (1, 1, 100), (100, 100, 100), (2, 3, 5)]
NO_WEIGHTS = [
    0, 1, 100, 3, (1, 1), (1,), (1, 1, 1, 1), [1, 1, 1], (0, 1, 1), (1, 0, 1), (1, 1, 0), (101, 1, 1), (1, 101, 1),
    (1, 1, 101), (-1, 1, 1), (1, 1, 10 ** 6000), (True, 1, 1), (1, True, 1), (1, 1, True), (None, 1, 1), (1, "1", 1),
    (1, 1, [1]), ((1, 1, 1),), ((1, 1), (1, 1), (1, 1)), (Stubborn(), 1, 1), {0: 1, 1: 1, 2: 1}, {1, 2, 3}, "111",
    b"111", range(1, 4),
]
NO_LEVELS = [1, 8, 0, -2, 9, 10 ** 6000, "3", b"3", (3,), [3], (3, 1), {3: 3}, (2, 2, 2)]
SUM = [(0, 100, 100, 100)] * 3


def squares_of(one, other, weights):
    """How far apart Fractions are."""
    return sum(weight * (here - there) ** 2 for weight, here, there in zip(weights, one, other))


def reckoned(grid, goal, levels, weights):
    """How far the nearest colour's worth is, and that colour, by looking at all."""
    rows = []
    for colour in product([Fraction(60 * at, levels - 1) for at in range(levels)], repeat=3):
        worth = told_colour(grid.worth(as_colour(*colour), way="four"))
        rows.append((squares_of(worth, goal, weights), colour))
    return min(rows)


class TestFarApart(unittest.TestCase):
    def test_told(self):
        one, other = as_colour(1, 2, 3), as_colour(4, 6, 8)
        self.assertEqual(far_apart(one, other), (50, 1))
        self.assertEqual(far_apart(other, one), (50, 1))
        self.assertEqual(far_apart(one, one), (0, 1))
        self.assertEqual(far_apart(one, other, weights=(1, 1, 1)), (50, 1))
        self.assertEqual(far_apart(one, other, weights=(2, 3, 4)), (166, 1))
        self.assertEqual(far_apart(one, other, weights=(100, 1, 1)), (941, 1))
        self.assertEqual(far_apart(as_colour(Fraction(1, 2), 0, 0), as_colour(Fraction(1, 3), 0, 0)), (1, 36))
        self.assertEqual(far_apart(((1, 2), (1, 3), (1, 6)), as_colour(0, 0, 0), weights=(1, 2, 3)), (5, 9))

    def test_by_fractions(self):
        for one, other in product(GOALS, repeat=2):
            for weights in WEIGHTS:
                far = far_apart(as_colour(*one), as_colour(*other), weights=weights)
                self.assertEqual(told(far), squares_of(one, other, weights))

    def test_refusals(self):
        colour = as_colour(1, 2, 3)
        for wrong in odd_things() + NO_COLOURS:
            for handed in ((wrong, colour), (colour, wrong), (wrong, wrong)):
                for weights in ((1, 1, 1), None, (0, 1, 1)):
                    with self.assertRaises(BadColour):
                        far_apart(*handed, weights=weights)
        for wrong in odd_things() + NO_WEIGHTS:
            with self.assertRaises(BadNumber):
                far_apart(colour, colour, weights=wrong)

    def test_weights_are_handed_in_by_their_name(self):
        with self.assertRaises(TypeError):
            far_apart(as_colour(1, 2, 3), as_colour(1, 2, 3), (1, 1, 1))


class NearestCase(unittest.TestCase):
    def told(self, grid, goal, colour, far, **how):
        """Look at the nearest of a goal, and at the worth that is shown."""
        pair = nearest(grid, as_colour(*goal), **how)
        self.assertEqual((type(pair), len(pair)), (tuple, 2))
        self.assertEqual(told_colour(pair[0]), tuple(colour))
        self.assertEqual(told(pair[1]), far)
        self.assertEqual(shown_worth(grid, as_colour(*goal), **how), grid.worth(as_colour(*colour)))


class TestNearest(NearestCase):
    def test_told(self):
        grid = sampled(2, [(0, 600, 0, 0), (0, 0, 600, 0), (0, 0, 0, 600)])
        self.told(grid, (0, 300, 600), (0, 30, 60), 0)
        self.told(grid, (100, 290, 700), (0, 30, 60), 10000 + 100 + 10000)
        self.told(grid, (100, 290, 700), (0, 0, 60), 10000 + 290 ** 2 + 10000, levels=2)
        self.told(grid, (100, 290, 700), (10, 30, 60), 100 + 10000, levels=7)
        self.told(grid, (-100, Fraction(1, 2), 2000), (0, 0, 60), 10000 + Fraction(1, 4) + 1400 ** 2)

    def test_three_levels_and_equal_weights_unless_told(self):
        grid = rough_grid(3)
        for goal in GOALS:
            handed = as_colour(*goal)
            self.assertEqual(nearest(grid, handed), nearest(grid, handed, levels=3, weights=(1, 1, 1)))
            self.assertEqual(shown_worth(grid, handed), shown_worth(grid, handed, levels=3, weights=(1, 1, 1)))

    def test_each_number_of_levels(self):
        grid = sampled(2, [(0, 600, 0, 0), (0, 0, 600, 0), (0, 0, 0, 600)])
        apart = {2: 60, 3: 30, 4: 20, 5: 15, 6: 12, 7: 10}
        for levels, step in apart.items():
            for place in product((0, 1, levels - 1), repeat=3):
                colour = [step * at for at in place]
                self.told(grid, [10 * number + 1 for number in colour], colour, 3, levels=levels)

    def test_by_reckoning(self):
        for knots, levels in ((2, 2), (2, 7), (3, 4), (4, 3), (5, 6), (7, 5)):
            grid = rough_grid(knots, seed=levels)
            for at, goal in enumerate(GOALS):
                for weights in WEIGHTS[at % 2::2]:
                    far, colour = reckoned(grid, goal, levels, weights)
                    self.told(grid, goal, colour, far, levels=levels, weights=weights)

    def test_worths_are_by_four(self):
        table = {**table_of(2, lambda a, b, c: (0, 0, 0)), (1, 1, 1): (1000, 0, 0)}
        # By four the middle has half of the last corner's worth, by eight an eighth of it.
        self.told(Grid(2, table), (500, 0, 0), (30, 30, 30), 0)
        self.assertEqual(shown_worth(Grid(2, table), as_colour(450, 0, 0)), as_colour(500, 0, 0))

    def test_weights_choose(self):
        grid = Grid(2, table_of(2, lambda a, b, c: (0, 0, 0) if (a, b, c) == (0, 0, 0) else (100, 100, 100 * c)))
        self.told(grid, (90, 90, 0), (0, 60, 0), 200, levels=2)
        self.told(grid, (40, 61, 0), (0, 60, 0), 60 ** 2 + 39 ** 2, levels=2)
        self.told(grid, (40, 61, 0), (0, 0, 0), 100 * 40 ** 2 + 61 ** 2, levels=2, weights=(100, 1, 1))
        self.told(grid, (61, 40, 0), (0, 60, 0), 39 ** 2 + 60 ** 2, levels=2)
        self.told(grid, (61, 40, 0), (0, 0, 0), 61 ** 2 + 100 * 40 ** 2, levels=2, weights=(1, 100, 1))
        self.told(grid, (80, 80, 49), (0, 60, 0), 2 * 20 ** 2 + 100 * 49 ** 2, levels=2, weights=(1, 1, 100))


class TestEquallyNear(NearestCase):
    def test_all_alike(self):
        grid = Grid(2, table_of(2, lambda a, b, c: (10, 20, 30)))
        for levels in range(2, 8):
            self.told(grid, (10, 20, 31), (0, 0, 0), 1, levels=levels)

    def test_the_least_one(self):
        grid = sampled(2, SUM)
        self.told(grid, (100, 100, 100), (0, 0, 60), 0, levels=2)
        self.told(grid, (200, 200, 200), (0, 60, 60), 0, levels=2)
        self.told(grid, (100, 100, 100), (0, 0, 60), 0)
        self.told(grid, (150, 150, 150), (0, 30, 60), 0)
        # As far from what is below as from what is above.
        self.told(grid, (150, 150, 150), (0, 0, 60), 7500, levels=2)

    def test_the_least_one_by_each_number(self):
        for way in range(3):
            rows = [tuple([0] + [0 if at == way else 100 * (at + 1) for at in range(3)])] * 3
            grid = sampled(2, rows)
            goal = [sum(rows[0])] * 3
            colour = [0 if at == way else 60 for at in range(3)]
            self.told(grid, goal, colour, 0, levels=2)

    def test_between_two_levels(self):
        grid = sampled(2, [(0, 600, 0, 0), (0, 0, 600, 0), (0, 0, 0, 600)])
        self.told(grid, (150, 150, 150), (0, 0, 0), 3 * 150 ** 2)
        self.told(grid, (450, 151, 450), (30, 30, 30), 2 * 150 ** 2 + 149 ** 2)
        falling = sampled(2, [(600, -600, 0, 0), (0, 0, 600, 0), (0, 0, 0, 600)])
        self.told(falling, (450, 0, 0), (0, 0, 0), 150 ** 2)


class TestRefusals(unittest.TestCase):
    def refused(self, error, grid, goal, **how):
        for deed in (nearest, shown_worth):
            with self.assertRaises(error):
                deed(grid, goal, **how)

    def test_no_grid_comes_first(self):
        goal = as_colour(1, 2, 3)
        for wrong in odd_things(Grid) + [5, (2, {}), table_of(2, lambda a, b, c: (a, b, c)), [rough_grid(2)], goal]:
            self.refused(BadGrid, wrong, goal)
            self.refused(BadGrid, wrong, None)
            self.refused(BadGrid, wrong, goal, levels=1)
            self.refused(BadGrid, wrong, 5, levels=None, weights=None)

    def test_no_colour_comes_next(self):
        grid = rough_grid(2)
        for wrong in odd_things() + NO_COLOURS + [grid, (1, 2, 3)]:
            self.refused(BadColour, grid, wrong)
            self.refused(BadColour, grid, wrong, levels=8)
            self.refused(BadColour, grid, wrong, weights=(0, 0, 0))
            self.refused(BadColour, grid, wrong, levels=True, weights=[1, 1, 1])

    def test_no_levels(self):
        for wrong in odd_things() + NO_LEVELS:
            self.refused(BadNumber, rough_grid(2), as_colour(1, 2, 3), levels=wrong)

    def test_no_weights(self):
        for wrong in odd_things() + NO_WEIGHTS:
            self.refused(BadNumber, rough_grid(2), as_colour(1, 2, 3), weights=wrong)

    def test_handed_in_by_their_names(self):
        for deed in (nearest, shown_worth):
            with self.assertRaises(TypeError):
                deed(rough_grid(2), as_colour(1, 2, 3), 3)

    def test_the_grid_stays(self):
        table = table_of(3, lambda a, b, c: (100 * a, 100 * b, 100 * c))
        grid = Grid(3, table)
        nearest(grid, as_colour(50, 60, 70), levels=4)
        self.refused(BadNumber, grid, as_colour(50, 60, 70), levels=1)
        self.assertEqual({place: grid.knot(place) for place in table}, table)


if __name__ == "__main__":
    unittest.main()
