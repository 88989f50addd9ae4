"""Curves: promise 3, and promise 1 as far as it speaks of them."""

import copy
import unittest
from fractions import Fraction
from itertools import combinations_with_replacement

from tests.things import NO_SHARES, as_share, odd_things, straight, told
from tintroads.curves import Curve, JoinedCurve
from tintroads.errors import BadColour, BadCurve, NoBack

BENT = [(0, 10), (10, 10), (30, 50), (40, 50), (60, 53)]
TWELVE = [(0, 0)] + [(at, at * 2) for at in range(1, 12)]


def small_curves():
    """Points of many curves: flat and rising parts in all orders, even and uneven steps."""
    rows = []
    for places in ((0, 2), (0, 1, 3), (0, 3, 4, 6)):
        for values in combinations_with_replacement((0, 1, 2, 4), len(places)):
            rows.append(list(zip(places, values)))
    return rows


def places_to(last):
    """Fractions from 0 to a last place."""
    return [Fraction(last * at, 24) for at in range(25)]


class TestMaking(unittest.TestCase):
    def refused(self, points):
        before = None
        if isinstance(points, list):
            before = list(points)
        with self.assertRaises(BadCurve):
            Curve(points)
        if before is not None:
            self.assertEqual(points, before)

    def test_how_many_points(self):
        self.assertEqual(Curve([(0, 0), (1, 1)]).last(), 1)
        self.assertEqual(Curve(TWELVE).last(), 11)
        self.refused([])
        self.refused([(0, 0)])
        self.refused(TWELVE + [(12, 24)])

    def test_how_great_numbers(self):
        self.assertEqual(Curve([(0, 0), (1000, 1000)]).ends(), (0, 1000))
        self.assertEqual(Curve([(0, 1000), (1000, 1000)]).ends(), (1000, 1000))
        self.refused([(0, 0), (1001, 1000)])
        self.refused([(0, 0), (1000, 1001)])
        self.refused([(0, -1), (1000, 1000)])
        self.refused([(-1, 0), (0, 0), (1, 1)])
        self.refused([(0, 0), (10 ** 6000, 1000)])

    def test_first_place(self):
        self.refused([(1, 0), (2, 1)])
        self.refused([(1000, 0), (1000, 1)])

    def test_places_rise(self):
        self.refused([(0, 0), (0, 1)])
        self.refused([(0, 0), (5, 1), (5, 2)])
        self.refused([(0, 0), (5, 1), (4, 2)])
        self.refused([(0, 0), (5, 1), (5, 1), (6, 2)])

    def test_values_stay_but_never_fall(self):
        self.assertEqual(Curve([(0, 3), (5, 3), (9, 3)]).ends(), (3, 3))
        self.refused([(0, 1), (5, 0)])
        self.refused([(0, 0), (5, 2), (6, 1)])
        self.refused([(0, 0), (5, 2), (6, 1), (7, 3)])

    def test_points_are_tuples_in_a_list(self):
        self.refused(((0, 0), (5, 5)))
        self.refused([[0, 0], [5, 5]])
        self.refused([(0, 0), [5, 5]])
        self.refused([(0, 0), (5, 5, 5)])
        self.refused([(0,), (5, 5)])
        self.refused([(0, 0), (5,)])
        self.refused([(0, 0, 0), (5, 5)])
        self.refused({0: 0, 5: 5})
        self.refused({(0, 0): 1, (5, 5): 2})
        self.refused([[(0, 0), (5, 5)]])
        self.refused([((0, 1), (0, 1)), ((5, 1), (5, 1))])
        self.refused("0 0, 5 5")
        self.refused(5)

    def test_numbers_are_whole(self):
        self.refused([(False, 0), (5, 5)])
        self.refused([(0, False), (5, 5)])
        self.refused([(0, 0), (True, 5)])
        self.refused([(0, 0), (5, True)])
        self.refused([(0, 0), ("5", 5)])
        self.refused([(0, 0), (5, None)])
        self.refused([(0, 0), ((5, 1), 5)])

    def test_other_kinds(self):
        for wrong in odd_things():
            with self.assertRaises(BadCurve):
                Curve(wrong)
            for points in ([wrong, (5, 5)], [(0, 0), wrong], [(wrong, 0), (5, 5)], [(0, 0), (5, wrong)]):
                with self.assertRaises(BadCurve):
                    Curve(points)

    def test_points_are_copied(self):
        points = list(BENT)
        curve = Curve(points)
        self.assertEqual(points, BENT)
        points[0] = (0, 0)
        points.append((1000, 1000))
        del points[1]
        self.assertEqual(curve.last(), 60)
        self.assertEqual(curve.ends(), (10, 53))
        self.assertEqual(curve.value((20, 1)), (30, 1))
        self.assertEqual(curve.back((30, 1)), (20, 1))

    def test_what_is_refused_changes_nothing(self):
        curve = Curve(BENT)
        for points in (None, [(0, 0)], [(0, 5), (5, 0)]):
            with self.assertRaises(BadCurve):
                curve.__init__(points)
        with self.assertRaises(BadColour):
            curve.value((61, 1))
        with self.assertRaises(NoBack):
            curve.back((54, 1))
        self.assertEqual((curve.last(), curve.ends()), (60, (10, 53)))


class TestValue(unittest.TestCase):
    def test_told(self):
        curve = Curve(BENT)
        for place, value in BENT:
            self.assertEqual(curve.value((place, 1)), (value, 1))
        self.assertEqual(curve.value((5, 1)), (10, 1))
        self.assertEqual(curve.value((11, 1)), (12, 1))
        self.assertEqual(curve.value((31, 3)), (32, 3))
        self.assertEqual(curve.value((35, 1)), (50, 1))
        self.assertEqual(curve.value((41, 1)), (1003, 20))
        huge = 10 ** 39
        self.assertEqual(curve.value((10 * huge + 1, huge)), (5 * huge + 1, huge // 2))

    def test_straight_between_points(self):
        for points in small_curves():
            curve = Curve(points)
            for place in places_to(points[-1][0]):
                self.assertEqual(told(curve.value(as_share(place))), straight(points, place))

    def test_beyond(self):
        curve = Curve(BENT)
        huge = 10 ** 50
        for place in ((-1, 1), (-1, huge), (61, 1), (60 * huge + 1, huge), (1000, 1), (huge, 1)):
            with self.assertRaises(BadColour):
                curve.value(place)

    def test_no_share(self):
        curve = Curve(BENT)
        for wrong in odd_things() + NO_SHARES:
            with self.assertRaises(BadColour):
                curve.value(wrong)


class TestBack(unittest.TestCase):
    def test_told(self):
        curve = Curve(BENT)
        self.assertEqual(curve.back((10, 1)), (0, 1))
        self.assertEqual(curve.back((12, 1)), (11, 1))
        self.assertEqual(curve.back((50, 1)), (30, 1))
        self.assertEqual(curve.back((51, 1)), (140, 3))
        self.assertEqual(curve.back((53, 1)), (60, 1))
        self.assertEqual(curve.back((32, 3)), (31, 3))

    def test_flat_parts(self):
        self.assertEqual(Curve([(0, 7), (9, 7)]).back((7, 1)), (0, 1))
        self.assertEqual(Curve([(0, 7), (4, 7), (9, 7)]).back((7, 1)), (0, 1))
        self.assertEqual(Curve([(0, 0), (4, 8), (6, 8), (9, 8)]).back((8, 1)), (4, 1))
        self.assertEqual(Curve([(0, 0), (4, 0), (6, 8), (9, 8)]).back((0, 1)), (0, 1))
        self.assertEqual(Curve([(0, 0), (4, 0), (6, 8), (9, 8)]).back((1, 1)), (17, 4))

    def test_the_least_place_that_has_it(self):
        for points in small_curves():
            curve = Curve(points)
            first, final = curve.ends()
            for place in places_to(points[-1][0]):
                value = straight(points, place)
                least = told(curve.back(as_share(value)))
                self.assertEqual(straight(points, least), value)
                self.assertLessEqual(least, place)
                if least > 0:
                    # Just ahead of the least place the curve is still below the value.
                    self.assertLess(straight(points, least - Fraction(1, 10 ** 9)), value)
            for value in (first - Fraction(1, 10 ** 9), final + Fraction(1, 10 ** 9), -1, 5, 1000):
                with self.assertRaises(NoBack):
                    curve.back(as_share(value))

    def test_no_share(self):
        curve = Curve([(0, 0), (5, 5)])
        for wrong in odd_things() + NO_SHARES:
            with self.assertRaises(NoBack):
                curve.back(wrong)


class TestForm(unittest.TestCase):
    def test_is_rising(self):
        self.assertIs(Curve([(0, 0), (1, 1)]).is_rising(), True)
        self.assertIs(Curve([(0, 1), (1, 1)]).is_rising(), False)
        self.assertIs(Curve([(0, 0), (1, 0), (2, 1)]).is_rising(), False)
        self.assertIs(Curve([(0, 0), (1, 1), (2, 1)]).is_rising(), False)
        self.assertIs(Curve([(0, 0), (1, 1), (2, 1), (3, 2)]).is_rising(), False)
        self.assertIs(Curve(TWELVE).is_rising(), True)

    def test_steepest(self):
        self.assertEqual(Curve(BENT).steepest(), (2, 1))
        self.assertEqual(Curve([(0, 5), (9, 5)]).steepest(), (0, 1))
        self.assertEqual(Curve([(0, 0), (3, 1), (5, 2), (9, 3)]).steepest(), (1, 2))
        self.assertEqual(Curve([(0, 0), (1, 1000), (1000, 1000)]).steepest(), (1000, 1))
        self.assertEqual(Curve([(0, 0), (7, 3), (10, 4)]).steepest(), (3, 7))
        for points in small_curves():
            slopes = [Fraction(high - low, there - here) for (here, low), (there, high) in zip(points, points[1:])]
            self.assertEqual(told(Curve(points).steepest()), max(slopes))

    def test_last_and_ends(self):
        for points in small_curves() + [BENT, TWELVE]:
            curve = Curve(points)
            self.assertEqual(curve.last(), points[-1][0])
            self.assertEqual(curve.ends(), (points[0][1], points[-1][1]))
            self.assertIs(type(curve.ends()), tuple)


class TestJoined(unittest.TestCase):
    def test_told(self):
        joined = JoinedCurve(Curve([(0, 0), (10, 20), (12, 20)]), Curve([(0, 5), (5, 10), (15, 10), (30, 40)]))
        self.assertEqual(joined.value((0, 1)), (5, 1))
        self.assertEqual(joined.value((1, 1)), (7, 1))
        self.assertEqual(joined.value((5, 1)), (10, 1))
        self.assertEqual(joined.value((17, 2)), (14, 1))
        self.assertEqual(joined.value((11, 1)), (20, 1))
        needed = [((0, 1), (5, 1)), ((5, 2), (10, 1)), ((15, 2), (10, 1)), ((10, 1), (20, 1)), ((12, 1), (20, 1))]
        for corner in needed:
            self.assertIn(corner, joined.corners())

    def test_first_curve_starts_within_the_second(self):
        joined = JoinedCurve(Curve([(0, 6), (4, 8)]), Curve([(0, 0), (7, 7), (8, 70)]))
        self.assertEqual(joined.value((0, 1)), (6, 1))
        self.assertEqual(joined.corners(), [((0, 1), (6, 1)), ((2, 1), (7, 1)), ((4, 1), (70, 1))])

    def test_everywhere(self):
        seconds = [[(0, 0), (4, 1)], [(0, 1), (1, 1), (2, 5), (4, 5)], [(0, 0), (1, 3), (2, 3), (3, 4), (5, 9)]]
        for points in small_curves():
            for behind in seconds:
                joined = JoinedCurve(Curve(points), Curve(behind))
                corners = self.looked_at(joined.corners(), points[-1][0])
                for place in places_to(points[-1][0]):
                    value = told(joined.value(as_share(place)))
                    self.assertEqual(value, straight(behind, straight(points, place)))
                    self.assertEqual(value, straight(corners, place))

    def looked_at(self, corners, last):
        self.assertIs(type(corners), list)
        for corner in corners:
            self.assertIs(type(corner), tuple)
        pairs = [(told(place), told(value)) for place, value in corners]
        places = [place for place, value in pairs]
        self.assertEqual(places, sorted(set(places)))
        self.assertEqual((places[0], places[-1]), (0, last))
        return pairs

    def test_last_value_at_the_last_place(self):
        first = Curve([(0, 0), (3, 10)])
        self.assertEqual(JoinedCurve(first, Curve([(0, 0), (10, 1)])).value((3, 1)), (1, 1))
        with self.assertRaises(BadCurve):
            JoinedCurve(first, Curve([(0, 0), (9, 1)]))

    def test_no_curves(self):
        curve = Curve([(0, 0), (5, 5)])
        joined = JoinedCurve(curve, curve)
        for wrong in odd_things(Curve) + [joined, [(0, 0), (5, 5)], 5, (0, 1)]:
            for handed in ((wrong, curve), (curve, wrong), (wrong, wrong)):
                with self.assertRaises(BadCurve):
                    JoinedCurve(*handed)

    def test_a_joined_curve_is_no_curve(self):
        curve = Curve([(0, 0), (5, 5)])
        self.assertNotIsInstance(JoinedCurve(curve, curve), Curve)
        self.assertNotIsInstance(curve, JoinedCurve)

    def test_beyond_and_no_share(self):
        joined = JoinedCurve(Curve([(0, 0), (5, 3)]), Curve([(0, 0), (50, 50)]))
        for wrong in odd_things() + NO_SHARES + [(-1, 1), (-1, 10 ** 30), (6, 1), (5 * 10 ** 30 + 1, 10 ** 30)]:
            with self.assertRaises(BadColour):
                joined.value(wrong)

    def test_told_lists_are_new(self):
        joined = JoinedCurve(Curve(BENT), Curve([(0, 0), (20, 7), (60, 9)]))
        corners = joined.corners()
        kept = copy.deepcopy(corners)
        corners.clear()
        self.assertEqual(joined.corners(), kept)
        self.assertEqual(joined.value((15, 1)), (7, 1))

    def test_curves_are_copied(self):
        first, second = Curve(BENT), Curve([(0, 0), (20, 7), (60, 9)])
        joined = JoinedCurve(first, second)
        kept = joined.corners()
        first.__init__([(0, 0), (5, 5)])
        second.__init__([(0, 0), (6, 6)])
        self.assertEqual(joined.corners(), kept)
        self.assertEqual(joined.value((15, 1)), (7, 1))

    def test_what_is_refused_changes_nothing(self):
        curve = Curve([(0, 0), (5, 5)])
        joined = JoinedCurve(curve, curve)
        with self.assertRaises(BadCurve):
            joined.__init__(curve, None)
        with self.assertRaises(BadCurve):
            joined.__init__(Curve([(0, 0), (5, 6)]), curve)
        self.assertEqual(joined.value((4, 1)), (4, 1))


if __name__ == "__main__":
    unittest.main()
