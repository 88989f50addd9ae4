"""Squares: promise 4, and promise 1 as far as it speaks of them."""

import copy
import unittest
from fractions import Fraction

from tests.things import COLOUR, NO_COLOURS, UNIT, no_squares, odd_things, told, with_number
from tintroads.errors import BadColour, BadSquare, NoBack
from tintroads.squares import led, led_back, together, volume, way_back

TURN = [[0, 1000, 0], [0, 0, 1000], [1000, 0, 0]]
MIXED = [[412, 358, 180], [213, 715, 72], [19, 119, 950]]
SIGNED = [[-4000, 4000, 1], [3999, -17, -2500], [0, 4000, 333]]
UNEVEN = [[1, 2, 3], [4, 5, 6], [7, 8, 10]]
SQUARES = [UNIT, TURN, MIXED, SIGNED, UNEVEN, [[4000, 1, 0], [0, -4000, 1], [1, 0, 4000]]]
FLAT = [
    [[0, 0, 0], [0, 0, 0], [0, 0, 0]],
    [[1, 2, 3], [4, 5, 6], [7, 8, 9]],
    [[1000, 0, 0], [0, 1000, 0], [1000, 1000, 0]],
    [[5, 0, 7], [5, 0, 7], [1, 2, 3]],
    [[0, 1, 2], [0, 3, 4], [0, 5, 6]],
]
COLOURS = [
    ((0, 1), (0, 1), (0, 1)),
    ((1, 1), (0, 1), (0, 1)),
    ((0, 1), (1, 1), (0, 1)),
    ((0, 1), (0, 1), (1, 1)),
    COLOUR,
    ((60, 1), (59, 7), (1, 3)),
    ((-1000, 3), (2 ** 70 + 1, 2), (-1, 3 ** 80)),
]


def no_colours():
    """What is no colour."""
    return odd_things() + NO_COLOURS


def fractions_led(rows, colour):
    """The numbers to which rows of Fractions lead a colour."""
    return [sum(part * told(number) for part, number in zip(row, colour)) for row in rows]


def fractions_of(square):
    """A square's numbers as they are meant."""
    return [[Fraction(number, 1000) for number in row] for row in square]


def forms_of(square):
    """One square as lists and tuples of lists and tuples."""
    a, b, c = square
    return [
        [list(a), list(b), list(c)], (tuple(a), tuple(b), tuple(c)),
        [tuple(a), tuple(b), tuple(c)], (list(a), list(b), list(c)), [list(a), tuple(b), list(c)],
    ]


class SquareCase(unittest.TestCase):
    def told_rows(self, rows):
        self.assertIs(type(rows), list)
        self.assertEqual([type(row) for row in rows], [list] * 3)
        self.assertEqual([len(row) for row in rows], [3] * 3)
        return [[told(number) for number in row] for row in rows]

    def told_colour(self, colour):
        self.assertIs(type(colour), tuple)
        self.assertEqual(len(colour), 3)
        return [told(number) for number in colour]


class TestVolume(SquareCase):
    def test_told(self):
        self.assertEqual(volume(UNIT), 1000 ** 3)
        self.assertEqual(volume(TURN), 1000 ** 3)
        self.assertEqual(volume([TURN[1], TURN[0], TURN[2]]), -(1000 ** 3))
        self.assertEqual(volume(UNEVEN), -3)
        self.assertEqual(volume([[4000, 0, 0], [0, 4000, 0], [0, 0, -4000]]), -(4000 ** 3))
        for square in FLAT:
            self.assertEqual(volume(square), 0)
        self.assertIs(type(volume(UNIT)), int)

    def test_by_its_rule(self):
        for square in SQUARES + FLAT:
            a, b, c = square
            size = a[0] * (b[1] * c[2] - b[2] * c[1]) - a[1] * (b[0] * c[2] - b[2] * c[0])
            size += a[2] * (b[0] * c[1] - b[1] * c[0])
            for form in forms_of(square):
                self.assertEqual(volume(form), size)

    def test_no_square(self):
        for wrong in no_squares() + [way_back(MIXED)]:
            with self.assertRaises(BadSquare):
                volume(wrong)


class TestLed(SquareCase):
    def test_told(self):
        colour = ((1, 2), (-1, 3), (5, 1))
        self.assertEqual(led(UNIT, colour), colour)
        self.assertEqual(led(TURN, colour), ((-1, 3), (5, 1), (1, 2)))
        self.assertEqual(led([[500, 0, 0], [0, -1, 0], [1000, 3000, 1]], colour), ((1, 4), (1, 3000), (-99, 200)))

    def test_by_fractions(self):
        for square in SQUARES + FLAT:
            for colour in COLOURS:
                wanted = fractions_led(fractions_of(square), colour)
                for form in forms_of(square):
                    self.assertEqual(self.told_colour(led(form, colour)), wanted)

    def test_numbers_at_the_edges(self):
        for number in (-4000, 4000):
            for row in range(3):
                for place in range(3):
                    square = with_number(number, row, place)
                    wanted = fractions_led(fractions_of(square), COLOUR)
                    self.assertEqual(self.told_colour(led(square, COLOUR)), wanted)

    def test_refusals(self):
        for wrong in no_squares():
            for colour in (COLOUR, None, 5):
                with self.assertRaises(BadSquare):
                    led(wrong, colour)
        for wrong in no_colours():
            with self.assertRaises(BadColour):
                led(MIXED, wrong)


class TestWayBack(SquareCase):
    def test_told(self):
        one, nought = (1, 1), (0, 1)
        self.assertEqual(way_back(UNIT), [[one, nought, nought], [nought, one, nought], [nought, nought, one]])
        self.assertEqual(way_back(TURN), [[nought, nought, one], [one, nought, nought], [nought, one, nought]])
        self.assertEqual(way_back([[2000, 0, 0], [0, -4000, 0], [0, 0, 3]]),
                         [[(1, 2), nought, nought], [nought, (-1, 4), nought], [nought, nought, (1000, 3)]])

    def test_leads_each_colour_back(self):
        for square in SQUARES:
            for form in forms_of(square):
                rows = self.told_rows(way_back(form))
                for colour in COLOURS:
                    there = led(square, colour)
                    self.assertEqual(fractions_led(rows, there), [told(number) for number in colour])

    def test_refusals(self):
        for wrong in no_squares():
            with self.assertRaises(BadSquare):
                way_back(wrong)
        for square in FLAT:
            for form in forms_of(square):
                with self.assertRaises(NoBack):
                    way_back(form)

    def test_told_lists_are_new(self):
        rows = way_back(MIXED)
        kept = copy.deepcopy(rows)
        rows[0].clear()
        rows.pop()
        self.assertEqual(way_back(MIXED), kept)


class TestLedBack(SquareCase):
    def test_there_and_back(self):
        for square in SQUARES:
            for form in forms_of(square):
                for colour in COLOURS:
                    back = led_back(form, colour)
                    self.told_colour(back)
                    self.assertEqual(led(square, back), colour)
                    self.assertEqual(led_back(form, led(square, colour)), colour)

    def test_told(self):
        self.assertEqual(led_back(TURN, ((-1, 3), (5, 1), (1, 2))), ((1, 2), (-1, 3), (5, 1)))
        self.assertEqual(led_back([[1, 0, 0], [0, 500, 0], [0, 0, -4000]], ((1, 1), (1, 1), (1, 1))),
                         ((1000, 1), (2, 1), (-1, 4)))

    def test_refusals(self):
        for wrong in no_squares():
            for colour in (COLOUR, None):
                with self.assertRaises(BadSquare):
                    led_back(wrong, colour)
        for square in FLAT:
            for colour in (COLOUR, None, 5, (0, 0, 0)):
                with self.assertRaises(NoBack):
                    led_back(square, colour)
        for wrong in no_colours():
            with self.assertRaises(BadColour):
                led_back(MIXED, wrong)


class TestTogether(SquareCase):
    def test_told(self):
        doubled = [[2000, 0, 0], [0, 1000, 0], [0, 0, 1000]]
        one, two, nought = (1, 1), (2, 1), (0, 1)
        # First turned, then doubled in the first number; and the other way about.
        self.assertEqual(together(TURN, doubled), [[nought, two, nought], [nought, nought, one], [one, nought, nought]])
        self.assertEqual(together(doubled, TURN), [[nought, one, nought], [nought, nought, one], [two, nought, nought]])

    def test_leads_as_one_behind_the_other(self):
        for square in SQUARES + FLAT:
            for other in SQUARES + FLAT:
                rows = self.told_rows(together(square, other))
                for colour in COLOURS:
                    wanted = [told(number) for number in led(other, led(square, colour))]
                    self.assertEqual(fractions_led(rows, colour), wanted)

    def test_forms(self):
        kept = together(MIXED, SIGNED)
        for form in forms_of(MIXED):
            for other in forms_of(SIGNED):
                self.assertEqual(together(form, other), kept)

    def test_no_square(self):
        for wrong in no_squares():
            for handed in ((wrong, UNIT), (UNIT, wrong), (wrong, wrong), (FLAT[0], wrong)):
                with self.assertRaises(BadSquare):
                    together(*handed)

    def test_told_lists_are_new(self):
        rows = together(MIXED, UNIT)
        kept = copy.deepcopy(rows)
        rows[0].clear()
        rows.pop()
        self.assertEqual(together(MIXED, UNIT), kept)


class TestNothingIsChanged(SquareCase):
    def test_squares_stay(self):
        square, other = copy.deepcopy(MIXED), copy.deepcopy(SIGNED)
        volume(square)
        led(square, COLOUR)
        way_back(square)
        led_back(square, COLOUR)
        together(square, other)
        self.assertEqual((square, other), (MIXED, SIGNED))

    def test_refused_squares_stay(self):
        flat = copy.deepcopy(FLAT[1])
        with self.assertRaises(NoBack):
            way_back(flat)
        self.assertEqual(flat, FLAT[1])


if __name__ == "__main__":
    unittest.main()
