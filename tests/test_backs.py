"""Ways back: promise 8, and promise 1 as far as it speaks of them."""

import unittest
from fractions import Fraction
from itertools import permutations, product

from tests.things import NO_COLOURS, Stubborn, as_colour, odd_things, rough_grid, table_of, told_colour
from tintroads.backs import is_flat, is_reached, ways_back
from tintroads.errors import BadColour, BadGrid
from tintroads.grids import Grid, sampled

STRAIGHT = [(0, 100, 0, 0), (0, 0, 100, 0), (0, 0, 0, 100)]
BESIDE = Fraction(1, 10 ** 40)


def folded(ways):
    """A grid of three knots each way whose numbers rise and fall again along some ways."""
    def worth(*place):
        return tuple(500 * (at % 2) if way in ways else 500 * at for way, at in enumerate(place))
    return Grid(3, table_of(3, worth))


def partly_flat():
    """A grid of one cell, one of whose parts is flat: first along the first way, then the second, then the third."""
    table = table_of(2, lambda a, b, c: (1000 * a, 1000 * b, 1000 * c))
    table[(1, 0, 0)] = (500, 500, 0)
    return Grid(2, table)


def solved(rows):
    """The numbers that solve rows of Fractions, each with its sum as the last; None where they are not just one."""
    rows = [[Fraction(number) for number in row] for row in rows]
    for at in range(len(rows)):
        chosen = [row for row in rows[at:] if row[at] != 0]
        if not chosen:
            return None
        pivot = [number / chosen[0][at] for number in chosen[0]]
        others = [row for row in rows if row is not chosen[0]]
        rows = [[number - row[at] * part for number, part in zip(row, pivot)] for row in others]
        rows.insert(at, pivot)
    return [row[-1] for row in rows]


def parts(grid):
    """The four knots of each part of each cell."""
    told = []
    for least in product(range(grid.size()[0] - 1), repeat=3):
        for order in permutations(range(3)):
            knots = [list(least)]
            for way in order:
                knots.append(list(knots[-1]))
                knots[-1][way] += 1
            told.append([tuple(knot) for knot in knots])
    return told


def shares_of_corners(grid, knots, goal):
    """How much of each corner makes a goal, all of them together 1; None of a flat part."""
    worths = [grid.knot(knot) for knot in knots]
    rows = [[worth[number] for worth in worths] + [goal[number]] for number in range(3)]
    return solved(rows + [[1, 1, 1, 1, 1]])


def reckoned(grid, goal):
    """All ways back, by how much of each corner makes the goal."""
    found = set()
    apart = grid.size()[1]
    for knots in parts(grid):
        amounts = shares_of_corners(grid, knots, goal)
        if amounts is not None and min(amounts) >= 0:
            found.add(tuple(sum(part * apart * knot[way] for part, knot in zip(amounts, knots)) for way in range(3)))
    return sorted(found)


class BackCase(unittest.TestCase):
    def told(self, grid, goal, *wanted):
        """Look at the ways back of a goal, and at whether it is reached."""
        backs = ways_back(grid, as_colour(*goal))
        self.assertIs(type(backs), list)
        self.assertEqual([told_colour(colour) for colour in backs], list(wanted))
        self.assertIs(is_reached(grid, as_colour(*goal)), len(wanted) > 0)
        for colour in backs:
            self.assertEqual(grid.worth(colour), as_colour(*goal))


class TestOneWay(BackCase):
    def test_at_every_knot_once(self):
        for knots in (2, 4, 7):
            grid = sampled(knots, STRAIGHT)
            apart = grid.size()[1]
            for place in product((0, 1, knots - 1), repeat=3):
                self.told(grid, grid.knot(place), tuple(apart * at for at in place))

    def test_within_parts_and_on_faces(self):
        grid = sampled(4, STRAIGHT)
        numbers = [Fraction(0), Fraction(1, 3), Fraction(20), Fraction(30), Fraction(121, 3), Fraction(60)]
        for colour in product(numbers, repeat=3):
            self.told(grid, [5 * number for number in colour], colour)

    def test_told_by_hand(self):
        grid = sampled(2, [(0, 1000, 0, 0), (0, 0, 1000, 0), (0, 0, 0, 1000)])
        self.told(grid, (500, 250, 125), (30, 15, Fraction(15, 2)))
        self.told(grid, (125, 500, 250), (Fraction(15, 2), 30, 15))
        # The way from the least corner to the farthest one lies in all six parts.
        self.told(grid, (500, 500, 500), (30, 30, 30))
        self.told(grid, (0, 0, 0), (0, 0, 0))
        self.told(grid, (1000, 1000, 1000), (60, 60, 60))

    def test_beyond_what_the_grid_has(self):
        grid = sampled(2, [(0, 1000, 0, 0), (0, 0, 1000, 0), (0, 0, 0, 1000)])
        for number in (-BESIDE, -1, -5000, 1000 + BESIDE, 1001, 10 ** 30):
            for goal in ((number, 0, 0), (500, number, 250), (1000, 1000, number), (number, number, number)):
                self.told(grid, goal)

    def test_just_beside_a_face(self):
        grid = sampled(3, [(100, 100, 0, 0), (100, 0, 100, 0), (100, 0, 0, 100)])
        self.told(grid, (100, 200, 300), (0, 30, 60))
        self.told(grid, (100 - BESIDE, 200, 300))
        self.told(grid, (100, 200, 300 + BESIDE))
        self.told(grid, (100 + BESIDE, 200 - BESIDE, 300 - BESIDE), (30 * BESIDE / 100, 30 - 30 * BESIDE / 100,
                                                                   60 - 30 * BESIDE / 100))


class TestSeveralWays(BackCase):
    def test_rising_by_the_first_number(self):
        self.told(folded([0]), (250, 100, 50), (15, 6, 3), (45, 6, 3))
        self.told(folded([0]), (500, 100, 50), (30, 6, 3))
        self.told(folded([0]), (0, 100, 50), (0, 6, 3), (60, 6, 3))

    def test_rising_by_the_second_and_the_third(self):
        self.told(folded([1]), (100, 250, 50), (6, 15, 3), (6, 45, 3))
        self.told(folded([2]), (100, 50, 250), (6, 3, 15), (6, 3, 45))

    def test_rising_by_all_three(self):
        self.told(folded([0, 1, 2]), (100, 250, 50), *product((6, 54), (15, 45), (3, 57)))
        self.told(folded([0, 1, 2]), (500, 500, 500), (30, 30, 30))
        self.told(folded([0, 1, 2]), (0, 500, 0), (0, 30, 0), (0, 30, 60), (60, 30, 0), (60, 30, 60))

    def test_rising_by_worth_not_by_figures(self):
        # By their tops alone 303/10 would come ahead of 597/20.
        def worth(a, b, c):
            return ((0, 200, 100)[a], 500 * b, 500 * c)
        grid = Grid(3, table_of(3, worth))
        self.told(grid, (150, 0, 0), (Fraction(45, 2), 0, 0), (45, 0, 0))
        self.told(grid, (199, 0, 0), (Fraction(597, 20), 0, 0), (Fraction(303, 10), 0, 0))
        backs = (Fraction(30) - Fraction(3, 20) * BESIDE, 0, 0), (Fraction(30) + Fraction(3, 10) * BESIDE, 0, 0)
        self.told(grid, (200 - BESIDE, 0, 0), *backs)

    def test_first_numbers_that_hardly_differ(self):
        def worth(a, b, c):
            return ((0, (991, 900, 997)[b], 1000)[a], (0, 500, 0)[b], 500 * c)
        # 30/997 is below 30/991 by less than half a part of so many as either has below.
        self.told(Grid(3, table_of(3, worth)), (1, 0, 0), (Fraction(30, 997), 60, 0), (Fraction(30, 991), 0, 0))

    def test_lists_are_new(self):
        grid = folded([0])
        backs = ways_back(grid, as_colour(250, 100, 50))
        backs.clear()
        self.assertEqual(len(ways_back(grid, as_colour(250, 100, 50))), 2)


class TestFlat(BackCase):
    def test_flat_everywhere(self):
        grids = [
            Grid(2, table_of(2, lambda a, b, c: (5, 6, 7))), Grid(7, table_of(7, lambda a, b, c: (0, 0, 0))),
            sampled(3, [(0, 100, 0, 0), (0, 0, 100, 0), (0, 100, 100, 0)]), sampled(4, [STRAIGHT[0]] * 3),
        ]
        for grid in grids:
            self.assertIs(is_flat(grid), True)
            for place in ((0, 0, 0), (1, 0, 1), (1, 1, 1)):
                self.told(grid, grid.knot(place))

    def test_flat_somewhere(self):
        def worth(a, b, c):
            return ((0, 0, 1000)[a], 500 * b, 500 * c)
        grid = Grid(3, table_of(3, worth))
        self.assertIs(is_flat(grid), True)
        self.assertEqual(grid.worth(as_colour(10, 6, 3)), as_colour(0, 100, 50))
        # Of all colours that have it only the one on the face of parts that are not flat.
        self.told(grid, (0, 100, 50), (30, 6, 3))
        self.told(grid, (500, 100, 50), (45, 6, 3))

    def test_one_flat_part(self):
        grid = partly_flat()
        self.assertIs(is_flat(grid), True)
        self.assertEqual(grid.worth(as_colour(20, 10, 0)), as_colour(250, 250, 0))
        self.told(grid, (250, 250, 0), (15, 15, 0), (30, 0, 0))
        self.told(grid, (500, 500, 0), (30, 30, 0), (60, 0, 0))

    def test_any_one_part_may_be_the_flat_one(self):
        flat = []
        for order in permutations(range(3)):
            def turned(*place):
                worth = partly_flat().knot(tuple(place[way] for way in order))
                return tuple(worth[order.index(way)] for way in range(3))
            grid = Grid(2, table_of(2, turned))
            self.assertIs(is_flat(grid), True)
            flat += [knots for knots in parts(grid) if shares_of_corners(grid, knots, (0, 0, 0)) is None]
        self.assertEqual(sorted(flat), sorted(parts(grid)))

    def test_the_last_cell_counts_too(self):
        for knots in range(2, 8):
            whole = sampled(knots, STRAIGHT)
            table = table_of(knots, lambda *place: whole.knot(place))
            self.assertIs(is_flat(Grid(knots, table)), False)
            table[(knots - 1,) * 3] = table[(knots - 2,) * 3]
            self.assertIs(is_flat(Grid(knots, table)), True)

    def test_flat_nowhere(self):
        for grid in (sampled(2, STRAIGHT), sampled(7, STRAIGHT), folded([0, 1, 2]), rough_grid(2), rough_grid(4)):
            self.assertIs(is_flat(grid), False)

    def test_by_reckoning(self):
        seen = set()
        for seed in range(60):
            grid = rough_grid(2 + seed % 2, seed, most=2 + seed % 9)
            wanted = any(shares_of_corners(grid, knots, (0, 0, 0)) is None for knots in parts(grid))
            self.assertIs(is_flat(grid), wanted)
            seen.add(wanted)
        self.assertEqual(seen, {True, False})


class TestByReckoning(BackCase):
    def test_rough_grids(self):
        many = []
        for seed in range(12):
            grid = rough_grid(2 + seed % 2, seed, most=(4, 9, 1000)[seed % 3])
            for colour in product((0, Fraction(7, 2), 30, 44), repeat=3):
                if sum(colour) % 4 == seed % 4 or sum(colour) < 8:
                    goal = told_colour(grid.worth(as_colour(*colour)))
                    wanted = reckoned(grid, goal)
                    self.told(grid, goal, *wanted)
                    many.append(len(wanted))
        self.assertIn(0, many)
        self.assertIn(1, many)
        self.assertGreater(max(many), 5)

    def test_a_colour_of_a_grid_that_is_nowhere_flat_is_among_them(self):
        grid = rough_grid(4)
        for colour in product((Fraction(1, 7), Fraction(20), Fraction(119, 2)), repeat=3):
            goal = grid.worth(as_colour(*colour))
            backs = ways_back(grid, goal)
            self.assertIn(as_colour(*colour), backs)
            self.assertEqual([told_colour(back) for back in backs], reckoned(grid, told_colour(goal)))


class TestRefusals(unittest.TestCase):
    def test_no_grid(self):
        goal = as_colour(1, 2, 3)
        others = [5, (2, {}), table_of(2, lambda a, b, c: (a, b, c)), [rough_grid(2)], (rough_grid(2),), "grid", goal]
        for wrong in odd_things(Grid) + others:
            for handed in (goal, None, 5, (1, 2, 3), Stubborn()):
                with self.assertRaises(BadGrid):
                    ways_back(wrong, handed)
                with self.assertRaises(BadGrid):
                    is_reached(wrong, handed)
            with self.assertRaises(BadGrid):
                is_flat(wrong)

    def test_no_colour(self):
        flat = Grid(2, table_of(2, lambda a, b, c: (0, 0, 0)))
        for grid in (rough_grid(2), flat):
            for wrong in odd_things() + NO_COLOURS + [grid, ((1, 1), (2, 2), (3, 1)), (Stubborn(), (0, 1), (0, 1))]:
                with self.assertRaises(BadColour):
                    ways_back(grid, wrong)
                with self.assertRaises(BadColour):
                    is_reached(grid, wrong)

    def test_the_grid_stays(self):
        table = table_of(3, lambda a, b, c: (100 * a, 100 * b, 100 * c))
        grid = Grid(3, table)
        ways_back(grid, as_colour(50, 60, 70))
        is_flat(grid)
        with self.assertRaises(BadColour):
            ways_back(grid, None)
        self.assertEqual({place: grid.knot(place) for place in table}, table)


if __name__ == "__main__":
    unittest.main()
