"""Grids: promises 5, 6 and 7, and promise 1 as far as it speaks of them."""

import copy
import unittest
from fractions import Fraction
from itertools import permutations, product

from tests.things import (
    NO_COLOURS, NO_KNOT_COUNTS, Stubborn, as_colour, as_share, mingled, odd_things, rough_grid, table_of, told_colour,
)
from tintroads.errors import BadColour, BadGrid, BadNumber
from tintroads.grids import Grid, is_grey, sampled

# One number of the worths of a grid of two knots each way, from which the tests below reckon by hand.
EIGHT = {(0, 0, 0): 0, (1, 0, 0): 100, (0, 1, 0): 200, (0, 0, 1): 400,
         (1, 1, 0): 350, (1, 0, 1): 700, (0, 1, 1): 800, (1, 1, 1): 1000}
APART = {2: 60, 3: 30, 4: 20, 5: 15, 6: 12, 7: 10}
NO_WORTHS = [
    5, 0, "abc", [0, 0, 0], [1, 2, 3], (0, 0), (0, 0, 0, 0), (5,), ((0, 0, 0),), ((0, 1), (0, 1), (0, 1)),
    (-1, 0, 0), (0, -1, 0), (0, 0, -1), (1001, 0, 0), (0, 1001, 0), (0, 0, 1001), (0, 0, 10 ** 6000),
    (True, 0, 0), (0, False, 0), (0, 0, True), (None, 0, 0), (0, "0", 0), (0, 0, [0]), {0: 0, 1: 0, 2: 0}, {0, 1, 2},
]
NO_WAYS = [
    "", "Four", "four ", " eight", "EIGHT", "fours", "f", "three", "4", "8", 4, 8, b"four", b"eight", ("four",),
    ["four"], {"four": "four"}, {"four"}, ("four", "eight"),
]
BEYOND = [Fraction(-1, 10 ** 40), -1, 60 + Fraction(1, 10 ** 40), 61, 1000, -(10 ** 30)]
ROWS = [(10, 100, 20, 3), (5, 7, 120, 30), (0, 10, 20, 130)]


def plain(a, b, c):
    """A worth that tells its knot."""
    return (100 * a, 100 * b + 7, 100 * c + a)


def eight_grid():
    """The grid of EIGHT, with other numbers beside them."""
    return Grid(2, {place: (number, 1000 - number, number // 2) for place, number in EIGHT.items()})


def cells_of(colour, knots):
    """All cells in which a colour lies, each with how far it is from the least corner, in steps."""
    steps = [number / Fraction(60, knots - 1) for number in colour]
    cells = []
    for least in product(range(knots - 1), repeat=3):
        far = [step - at for step, at in zip(steps, least)]
        if all(0 <= number <= 1 for number in far):
            cells.append((least, far))
    return cells


def corner(least, beyond):
    """A corner of a cell, so many steps beyond the least one."""
    return tuple(at + step for at, step in zip(least, beyond))


def by_four(grid, least, far):
    """The worth by four: at each height from 0 to 1 the corner that is beyond along the ways which reach so high."""
    heights = sorted({Fraction(0), Fraction(1), *far})
    total = [0, 0, 0]
    for low, high in zip(heights, heights[1:]):
        worth = grid.knot(corner(least, [number >= high for number in far]))
        total = [number + (high - low) * more for number, more in zip(total, worth)]
    return tuple(total)


def by_eight(grid, least, far):
    """The worth by eight: straight along the third way, between these along the second, then along the first."""
    def along(beyond):
        if len(beyond) == 3:
            return grid.knot(corner(least, beyond))
        distance = far[len(beyond)]
        pairs = zip(along(beyond + [0]), along(beyond + [1]))
        return tuple(low * (1 - distance) + high * distance for low, high in pairs)
    return along([])


def some_colours(knots):
    """Device's colours at knots, on edges and faces, within cells, with ways equally far, at both ends."""
    apart = Fraction(60, knots - 1)
    numbers = [Fraction(0), apart / 3, apart / 2, apart, 60 - apart / 7, Fraction(60)]
    return list(product(numbers, repeat=3)) + [(Fraction(1, 10 ** 30), Fraction(59), 60 - Fraction(1, 3 ** 40))]


class TestMaking(unittest.TestCase):
    def refused(self, knots, table):
        with self.assertRaises(BadGrid):
            Grid(knots, table)

    def test_how_many_knots(self):
        for knots in range(2, 8):
            grid = Grid(knots, table_of(knots, plain))
            self.assertEqual(grid.size(), (knots, APART[knots]))
        for knots in (1, 8, 0, -1, 9):
            self.refused(knots, table_of(max(knots, 0), plain))
        self.refused(0, {})

    def test_no_number_of_knots(self):
        for wrong in odd_things() + NO_KNOT_COUNTS:
            for table in (table_of(2, plain), {}, None):
                self.refused(wrong, table)
        self.refused(True, table_of(1, plain))

    def test_numbers_at_the_edges(self):
        for worth in ((0, 0, 0), (1000, 1000, 1000), (0, 1000, 0)):
            grid = Grid(2, table_of(2, lambda a, b, c: worth))
            self.assertEqual(grid.knot((1, 0, 1)), worth)

    def test_just_all_knots(self):
        for knots in (2, 3, 7):
            for place in ((0, 0, 0), (1, 0, 1), (knots - 1, knots - 1, knots - 1)):
                table = table_of(knots, plain)
                del table[place]
                self.refused(knots, table)
                for other in ((0, 0, knots), (knots, 0, 0), (0, -1, 0), (0, 0), (0, 0, 0, 0), "000", None, 5):
                    self.refused(knots, {**table, other: (0, 0, 0)})
            for other in ((knots, 0, 0), (0, knots, 0), (-1, 0, 0), (0, 0, 0, 0), None, "", 7):
                self.refused(knots, {**table_of(knots, plain), other: (0, 0, 0)})
        self.refused(2, table_of(3, plain))
        self.refused(3, table_of(2, plain))
        self.refused(2, {})

    def test_knots_are_tuples_of_three_whole_numbers(self):
        wrongs = [
            0, "a", (0,), (0, 0), (0, 0, 0, 0), ((0, 0, 0),), ("0", "0", "0"), ((0, 1), (0, 1), (0, 1)), None, b"abc",
            frozenset((0, 1)), (False, False, False), (0, 0, False), (False, 0, 0), (0, False, 0), Grid, len,
        ]
        for wrong in wrongs:
            table = table_of(2, plain)
            del table[(0, 0, 0)]
            self.refused(2, {**table, wrong: (0, 0, 0)})
        for wrong in ((True, 1, 1), (1, True, 1), (1, 1, True)):
            # Such a key finds the same place in a dict as the knot itself.
            table = table_of(2, plain)
            del table[(1, 1, 1)]
            self.refused(2, {**table, wrong: (0, 0, 0)})

    def test_worths(self):
        for wrong in odd_things() + NO_WORTHS:
            for place in ((0, 0, 0), (1, 0, 1), (1, 1, 1)):
                self.refused(2, {**table_of(2, plain), place: wrong})

    def test_other_kinds(self):
        others = [table_of(2, plain)[(0, 0, 0)], list(table_of(2, plain)), list(table_of(2, plain).items()),
                  tuple(table_of(2, plain).items()), 8, "table", rough_grid(2)]
        for wrong in odd_things() + others:
            self.refused(2, wrong)

    def test_the_order_of_the_table_does_not_matter(self):
        table = table_of(3, plain)
        turned = dict(reversed(list(table.items())))
        for colour in some_colours(3)[::5]:
            handed = as_colour(*colour)
            self.assertEqual(Grid(3, turned).worth(handed), Grid(3, table).worth(handed))

    def test_the_table_is_copied(self):
        table = table_of(3, plain)
        grid = Grid(3, table)
        self.assertEqual(table, table_of(3, plain))
        table[(0, 0, 0)] = (1000, 1000, 1000)
        table[(3, 3, 3)] = (5, 5, 5)
        del table[(1, 1, 1)]
        for place in product(range(3), repeat=3):
            self.assertEqual(grid.knot(place), plain(*place))
        self.assertEqual(grid.worth(as_colour(30, 30, 30)), as_colour(100, 107, 101))
        self.assertEqual(grid.widest(), 100)
        table.clear()
        self.assertEqual(grid.knot((0, 0, 0)), (0, 7, 0))

    def test_what_is_refused_changes_nothing(self):
        grid = Grid(3, table_of(3, plain))
        table = {**table_of(2, plain), (1, 1, 1): [0, 0, 0]}
        before = copy.deepcopy(table)
        for handed in ((2, table), (8, table_of(8, plain)), (2, None)):
            with self.assertRaises(BadGrid):
                grid.__init__(*handed)
        self.assertEqual(table, before)
        self.assertEqual((grid.size(), grid.knot((2, 1, 0))), ((3, 30), (200, 107, 2)))


class TestKnotAndSize(unittest.TestCase):
    def test_knot(self):
        for knots in (2, 5, 7):
            grid = Grid(knots, table_of(knots, plain))
            for place in product(range(knots), repeat=3):
                self.assertEqual(grid.knot(place), plain(*place))
                self.assertIs(type(grid.knot(place)), tuple)
                self.assertEqual({type(number) for number in grid.knot(place)}, {int})

    def test_no_knot(self):
        wrongs = [
            (0, 0, 3), (3, 0, 0), (0, 3, 0), (-1, 0, 0), (0, -1, 0), (0, 0, -1), (0, 0, 10 ** 6000), (0, 0), (0, 0, 0, 0),
            [0, 0, 0], (0,), 0, "000", b"000", ((0, 0, 0),), ((0, 1), (0, 1), (0, 1)), (True, 0, 0), (0, True, 0),
            (0, 0, False), (False, False, False), ("0", 0, 0), (None, 0, 0), (0, 0, [0]), {0: 0, 1: 0, 2: 0}, {0, 1, 2},
        ]
        grid = Grid(3, table_of(3, plain))
        for wrong in odd_things() + wrongs:
            with self.assertRaises(BadColour):
                grid.knot(wrong)
        for knots in range(2, 8):
            with self.assertRaises(BadColour):
                rough_grid(knots).knot((0, knots, 0))

    def test_size(self):
        for knots, apart in APART.items():
            size = rough_grid(knots).size()
            self.assertEqual(size, (knots, apart))
            self.assertEqual((type(size), type(size[0]), type(size[1])), (tuple, int, int))


class TestWorth(unittest.TestCase):
    def test_told_by_hand(self):
        # So far: a half, a third, a sixth. By four: 0/2 + 100/6 + 350/6 + 1000/6.
        grid = eight_grid()
        number = Fraction(725, 3)
        wanted = as_colour(number, 1000 - number, number / 2)
        self.assertEqual(grid.worth(as_colour(30, 20, 10)), wanted)
        self.assertEqual(grid.worth(as_colour(30, 20, 10), way="four"), wanted)
        number = Fraction(3875, 18)
        self.assertEqual(grid.worth(as_colour(30, 20, 10), way="eight"), as_colour(number, 1000 - number, number / 2))

    def test_the_farthest_way_comes_first(self):
        far = (Fraction(1, 2), Fraction(1, 3), Fraction(1, 6))
        grid = eight_grid()
        for order in permutations(range(3)):
            colour = [0, 0, 0]
            places = [[0, 0, 0]]
            for way, distance in zip(order, far):
                colour[way] = 60 * distance
                places.append(list(places[-1]))
                places[-1][way] = 1
            first, second, third, last = [EIGHT[tuple(place)] for place in places]
            wanted = Fraction(first, 2) + Fraction(second, 6) + Fraction(third, 6) + Fraction(last, 6)
            self.assertEqual(grid.worth(as_colour(*colour))[0], as_share(wanted))

    def test_two_or_three_ways_equally_far(self):
        grid = eight_grid()
        self.assertEqual(grid.worth(as_colour(20, 20, 20))[0], (1000, 3))
        self.assertEqual(grid.worth(as_colour(30, 30, 0))[0], (175, 1))
        self.assertEqual(grid.worth(as_colour(30, 0, 30))[0], (350, 1))
        self.assertEqual(grid.worth(as_colour(0, 30, 30))[0], (400, 1))
        self.assertEqual(grid.worth(as_colour(40, 40, 20))[0], as_share(Fraction(350 + 1000, 3)))
        self.assertEqual(grid.worth(as_colour(40, 20, 20))[0], as_share(Fraction(100 + 1000, 3)))
        self.assertEqual(grid.worth(as_colour(30, 30, 0), way="eight")[0], as_share(Fraction(650, 4)))

    def test_at_knots(self):
        for knots in range(2, 8):
            grid = rough_grid(knots)
            for place in product(range(knots), repeat=3):
                colour = as_colour(*[APART[knots] * at for at in place])
                for way in ("four", "eight"):
                    self.assertEqual(grid.worth(colour, way=way), as_colour(*grid.knot(place)))

    def test_everywhere_and_from_every_cell(self):
        for knots in (2, 3, 4, 7):
            grid = rough_grid(knots, seed=knots)
            for colour in some_colours(knots):
                handed = as_colour(*colour)
                for least, far in cells_of(colour, knots):
                    self.assertEqual(told_colour(grid.worth(handed)), by_four(grid, least, far))
                    self.assertEqual(told_colour(grid.worth(handed, way="eight")), by_eight(grid, least, far))

    def test_edges_are_straight_both_ways(self):
        grid = rough_grid(4)
        for way in ("four", "eight"):
            low, high = grid.knot((2, 1, 3)), grid.knot((3, 1, 3))
            wanted = [Fraction(3 * one + other, 4) for one, other in zip(low, high)]
            self.assertEqual(grid.worth(as_colour(45, 20, 60), way=way), as_colour(*wanted))

    def test_worths_that_are_all_alike(self):
        for knots in (2, 6):
            grid = Grid(knots, table_of(knots, lambda a, b, c: (1000, 3, 0)))
            for colour in some_colours(knots):
                for way in ("four", "eight"):
                    self.assertEqual(grid.worth(as_colour(*colour), way=way), as_colour(1000, 3, 0))

    def test_greys_by_four_between_grey_knots(self):
        def worth(a, b, c):
            if a == b == c:
                return (90 * a * a,) * 3
            return tuple(mingled(at, a, b, c) for at in range(3))
        grid = Grid(4, table_of(4, worth))
        for number in (Fraction(0), Fraction(1, 7), Fraction(10), Fraction(20), Fraction(119, 2), Fraction(60)):
            grey = as_colour(number, number, number)
            self.assertTrue(is_grey(grid.worth(grey)))
        self.assertEqual(grid.worth(as_colour(30, 30, 30)), as_colour(225, 225, 225))
        self.assertFalse(is_grey(grid.worth(as_colour(30, 30, 30), way="eight")))

    def test_no_way(self):
        grid = rough_grid(2)
        for wrong in odd_things() + NO_WAYS:
            for colour in (as_colour(1, 2, 3), None, as_colour(61, 0, 0)):
                with self.assertRaises(BadColour):
                    grid.worth(colour, way=wrong)

    def test_the_way_is_handed_in_by_its_name(self):
        with self.assertRaises(TypeError):
            rough_grid(2).worth(as_colour(1, 2, 3), "four")

    def test_no_devices_colour(self):
        grid = rough_grid(3)
        beyond = []
        for number in BEYOND:
            beyond += [as_colour(number, 1, 2), as_colour(0, number, 60), as_colour(1, 2, number)]
        for wrong in odd_things() + NO_COLOURS + beyond + [(Stubborn(), (0, 1), (0, 1))]:
            for way in ("four", "eight"):
                with self.assertRaises(BadColour):
                    grid.worth(wrong, way=way)


class TestWidest(unittest.TestCase):
    def test_told(self):
        self.assertEqual(Grid(2, table_of(2, lambda a, b, c: (5, 6, 7))).widest(), 0)
        self.assertEqual(eight_grid().widest(), 650)
        self.assertEqual(Grid(3, table_of(3, plain)).widest(), 100)
        self.assertIs(type(eight_grid().widest()), int)

    def test_one_knot_apart_from_the_others(self):
        for knots in (2, 3, 7):
            for place in product((0, 1, knots - 1), repeat=3):
                for number in range(3):
                    worth = [500, 500, 500]
                    worth[number] = 0 if sum(place) % 2 else 1000
                    table = table_of(knots, lambda a, b, c: (500, 500, 500))
                    table[place] = tuple(worth)
                    self.assertEqual(Grid(knots, table).widest(), 500)

    def test_neighbours_along_one_way_alone(self):
        for way in range(3):
            for number in range(3):
                def worth(*place):
                    told = [0, 0, 0]
                    told[number] = 30 * place[way] * place[way]
                    return tuple(told)
                # From the third knot to the fourth; knots farther from one another differ by more.
                self.assertEqual(Grid(4, table_of(4, worth)).widest(), 150)

    def test_knots_across_are_no_neighbours(self):
        self.assertEqual(Grid(2, table_of(2, lambda a, b, c: (300 * (a + b + c), 0, 0))).widest(), 300)

    def test_rough(self):
        for knots in (2, 4, 7):
            grid = rough_grid(knots, seed=9)
            most = 0
            for place, other in product(product(range(knots), repeat=3), repeat=2):
                if sum(abs(here - there) for here, there in zip(place, other)) == 1:
                    pairs = zip(grid.knot(place), grid.knot(other))
                    most = max(most, max(abs(here - there) for here, there in pairs))
            self.assertEqual(grid.widest(), most)


class TestSampled(unittest.TestCase):
    def test_told(self):
        grid = sampled(3, ROWS)
        self.assertIsInstance(grid, Grid)
        self.assertEqual(grid.size(), (3, 30))
        self.assertEqual(grid.knot((0, 0, 0)), (10, 5, 0))
        self.assertEqual(grid.knot((1, 0, 0)), (110, 12, 10))
        self.assertEqual(grid.knot((0, 1, 0)), (30, 125, 20))
        self.assertEqual(grid.knot((0, 0, 1)), (13, 35, 130))
        self.assertEqual(grid.knot((2, 1, 2)), (236, 199, 300))

    def test_at_all_knots(self):
        for knots in range(2, 8):
            for rows in (ROWS, [(1000, -1000, 1, 0), (-1000, 1000, 1000, 1000), (500, -90, 80, -70)]):
                grid = sampled(knots, rows)
                self.assertEqual(grid.size(), (knots, APART[knots]))
                for place in product(range(knots), repeat=3):
                    sums = [row[0] + sum(part * at for part, at in zip(row[1:], place)) for row in rows]
                    self.assertEqual(grid.knot(place), tuple(max(0, min(1000, number)) for number in sums))

    def test_held_within_both_ends(self):
        grid = sampled(2, [(1000, 1, 0, 0), (0, -1, 0, 0), (999, 1, -1000, 0)])
        self.assertEqual(grid.knot((0, 0, 0)), (1000, 0, 999))
        self.assertEqual(grid.knot((1, 0, 0)), (1000, 0, 1000))
        self.assertEqual(grid.knot((1, 1, 0)), (1000, 0, 0))
        self.assertEqual(grid.knot((0, 1, 0)), (1000, 0, 0))
        grid = sampled(7, [(1000,) * 4, (-1000,) * 4, (-1000, 1000, 0, 0)])
        self.assertEqual(grid.knot((6, 6, 6)), (1000, 0, 1000))
        self.assertEqual(grid.knot((1, 0, 0)), (1000, 0, 0))

    def test_no_number_of_knots(self):
        for wrong in odd_things() + NO_KNOT_COUNTS:
            for rows in (ROWS, None, [], ROWS[:2], tuple(ROWS)):
                with self.assertRaises(BadNumber):
                    sampled(wrong, rows)

    def test_no_rows(self):
        first, second, third = ROWS
        wrongs = [
            5, "abc", tuple(ROWS), ROWS[:2], ROWS + [first], [], [ROWS], {0: first, 1: second, 2: third}, first,
            [list(first), second, third], [first, second, list(third)], [first, list(second), third],
            [first[:3], second, third], [first, second + (0,), third], [first, second, ()], [first, second, 5],
            [first, second, "abcd"], [first, second, None], [first, second, {0: 0, 1: 1, 2: 2, 3: 3}],
            [first, second, {0, 1, 2, 3}], [first, second, (first,) * 4], [(1, 2, 3)] * 3, [b"abcd"] * 3,
        ]
        for number in (1001, -1001, 10 ** 6000, True, False, None, "5", (5, 1), [5], Stubborn()):
            for place in range(4):
                wrongs.append([first, second, third[:place] + (number,) + third[place + 1:]])
                wrongs.append([first[:place] + (number,) + first[place + 1:], second, third])
        for wrong in odd_things() + wrongs:
            with self.assertRaises(BadGrid):
                sampled(3, wrong)

    def test_rows_stay(self):
        rows = list(ROWS)
        grid = sampled(3, rows)
        self.assertEqual(rows, ROWS)
        rows.clear()
        self.assertEqual(grid.knot((1, 0, 0)), (110, 12, 10))


class TestIsGrey(unittest.TestCase):
    def test_told(self):
        for grey in (as_colour(0, 0, 0), as_colour(60, 60, 60), ((1, 2), (1, 2), (1, 2)), (5, 5, 5), (0, 0, 0)):
            self.assertIs(is_grey(grey), True)
        half = (1, 2)
        for other in ((half, half, (1, 3)), (half, (1, 3), half), ((1, 3), half, half), as_colour(1, 2, 3), (0, 0, 1),
                      (half, half, (1, 1)), (half, half, (-1, 2)), (1, 0, 0), (0, 1, 0)):
            self.assertIs(is_grey(other), False)


if __name__ == "__main__":
    unittest.main()
