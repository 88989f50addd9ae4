"""Shares: promise 2, and promise 1 as far as it speaks of them."""

import math
import unittest
from fractions import Fraction

from tests.things import NO_SHARES, as_share, odd_things, told
from tintroads.errors import BadNumber, BadShare
from tintroads.shares import added, floor_of, multiplied, nearest_whole, share

HUGE = 2 ** 64

NUMBERS = [Fraction(top, below) for top in range(-9, 10) for below in range(1, 7)] + [
    Fraction(HUGE), Fraction(-HUGE), Fraction(HUGE ** 5 + 1, 3), Fraction(-1, HUGE ** 3), Fraction(HUGE + 1, HUGE),
    Fraction(-HUGE ** 2 - 1, 2), Fraction(3 ** 300, 7 ** 200), Fraction(-(7 ** 200), 3 ** 300),
]


class TestShare(unittest.TestCase):
    def test_lowest_terms(self):
        self.assertEqual(share(1, 2), (1, 2))
        self.assertEqual(share(6, 4), (3, 2))
        self.assertEqual(share(-6, 4), (-3, 2))
        self.assertEqual(share(12, 4), (3, 1))
        self.assertEqual(share(7, 7), (1, 1))
        self.assertEqual(share(HUGE * 6, HUGE * 4), (3, 2))
        self.assertEqual(share(3 ** 500 * 10, 3 ** 499 * 4), (15, 2))

    def test_nought(self):
        for below in (1, 2, 1000, HUGE, -1, -9):
            self.assertEqual(share(0, below), (0, 1))

    def test_below_is_one_unless_told(self):
        for top in (-5, 0, 5, HUGE, -HUGE):
            self.assertEqual(share(top), (top, 1))
        self.assertEqual(share(3, below=9), (1, 3))

    def test_negative_below(self):
        self.assertEqual(share(1, -2), (-1, 2))
        self.assertEqual(share(-1, -2), (1, 2))
        self.assertEqual(share(-4, -2), (2, 1))
        self.assertEqual(share(4, -6), (-2, 3))
        self.assertEqual(share(1, -HUGE), (-1, HUGE))

    def test_all_small_ones(self):
        for top in range(-30, 31):
            for below in list(range(-20, 0)) + list(range(1, 21)):
                self.assertEqual(told(share(top, below)), Fraction(top, below))

    def test_nought_below(self):
        for top in (0, 1, -1, HUGE):
            with self.assertRaises(BadNumber):
                share(top, 0)

    def test_no_whole_numbers(self):
        for wrong in odd_things() + [(0, 1), (1, 2), [1], [1, 2], "1", b"1", {1: 1}]:
            for handed in ((wrong,), (wrong, 1), (1, wrong), (wrong, wrong), (wrong, 0)):
                with self.assertRaises(BadNumber):
                    share(*handed)

    def test_huge_numbers_that_have_no_text(self):
        huge = 10 ** 6000
        self.assertEqual(share(huge * 3, huge * 6), (1, 2))
        with self.assertRaises(BadNumber):
            share(huge, 0)
        with self.assertRaises(BadShare):
            floor_of((huge, huge))


class TestSums(unittest.TestCase):
    def test_added(self):
        self.assertEqual(added((1, 2), (1, 3)), (5, 6))
        self.assertEqual(added((1, 6), (1, 3)), (1, 2))
        self.assertEqual(added((1, 2), (-1, 2)), (0, 1))
        self.assertEqual(added((HUGE, 1), (1, HUGE)), (HUGE ** 2 + 1, HUGE))
        for one in NUMBERS:
            for other in NUMBERS:
                self.assertEqual(told(added(as_share(one), as_share(other))), one + other)

    def test_multiplied(self):
        self.assertEqual(multiplied((1, 2), (1, 3)), (1, 6))
        self.assertEqual(multiplied((2, 3), (3, 2)), (1, 1))
        self.assertEqual(multiplied((-2, 3), (3, 4)), (-1, 2))
        self.assertEqual(multiplied((0, 1), (-3, 4)), (0, 1))
        for one in NUMBERS:
            for other in NUMBERS:
                self.assertEqual(told(multiplied(as_share(one), as_share(other))), one * other)


class TestWholes(unittest.TestCase):
    def test_floor(self):
        told_floors = [
            ((5, 2), 2), ((-5, 2), -3), ((4, 1), 4), ((-4, 1), -4), ((0, 1), 0), ((1, 3), 0), ((-1, 3), -1),
            ((-1, HUGE), -1), ((1, HUGE), 0), ((HUGE ** 2 + 1, HUGE), HUGE), ((-HUGE ** 2 - 1, HUGE), -HUGE - 1),
        ]
        for one, floor in told_floors:
            self.assertEqual(floor_of(one), floor, one)
        for one in NUMBERS:
            self.assertEqual(floor_of(as_share(one)), math.floor(one))

    def test_nearest_whole(self):
        told_wholes = [
            ((1, 2), 1), ((-1, 2), 0), ((3, 2), 2), ((-3, 2), -1), ((5, 2), 3), ((-5, 2), -2),
            ((1, 3), 0), ((2, 3), 1), ((-1, 3), 0), ((-2, 3), -1), ((0, 1), 0), ((7, 1), 7), ((-7, 1), -7),
            ((2 * HUGE + 1, 2), HUGE + 1), ((-2 * HUGE - 1, 2), -HUGE), ((HUGE - 1, 2 * HUGE), 0),
            ((HUGE + 1, 2 * HUGE), 1), ((-HUGE - 1, 2 * HUGE), -1), ((-HUGE + 1, 2 * HUGE), 0),
        ]
        for one, whole in told_wholes:
            self.assertEqual(nearest_whole(one), whole, one)
        for one in NUMBERS:
            self.assertEqual(nearest_whole(as_share(one)), math.floor(one + Fraction(1, 2)))

    def test_kinds(self):
        for one in ((1, 2), (0, 1), (1, 1), (-1, 1)):
            self.assertIs(type(floor_of(one)), int)
            self.assertIs(type(nearest_whole(one)), int)


class TestNoShares(unittest.TestCase):
    def test_of_one(self):
        for wrong in odd_things() + NO_SHARES:
            for deed in (floor_of, nearest_whole):
                with self.assertRaises(BadShare):
                    deed(wrong)

    def test_of_two(self):
        for wrong in odd_things() + NO_SHARES:
            for deed in (added, multiplied):
                for handed in ((wrong, (1, 2)), ((1, 2), wrong), (wrong, wrong), (wrong, (0, 1)), ((0, 1), wrong)):
                    with self.assertRaises(BadShare):
                        deed(*handed)


if __name__ == "__main__":
    unittest.main()
