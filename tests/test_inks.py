"""Inks: promise 14, and promise 1 as far as it speaks of them."""

import unittest
from fractions import Fraction
from itertools import product

from tests.things import NO_SHARES, Stubborn, as_colour, as_share, odd_things, told
from tintroads.errors import BadInk
from tintroads.inks import all_ink, black_kept, limited, with_black, without_black

BESIDE = Fraction(1, 10 ** 40)
INKS = [Fraction(0), Fraction(1, 3), Fraction(25), Fraction(199, 2), Fraction(100)]
BEYOND = [-BESIDE, Fraction(-1), 100 + BESIDE, Fraction(101), Fraction(10 ** 30)]
THREE = as_colour(50, 30, 80)
FOUR_FRACTIONS = (Fraction(50), Fraction(30), Fraction(80), Fraction(20))
FOUR = as_colour(*FOUR_FRACTIONS)
NO_PARTS = [-1, 101, 10 ** 6000, -(10 ** 6000), (50, 1), (1, 2), "50", b"50", (50,), [50], {50: 50}]
NO_LIMITS = [-1, 401, 10 ** 6000, -(10 ** 6000), (300, 1), (1, 2), "300", b"300", (300,), [300], {300: 300}]
LIMITS = [0, 1, 100, 199, 300, 399, 400]


def no_inks(many):
    """What are not so many inks."""
    good = [(0, 1), (100, 1), (1, 2), (30, 1)][:many]
    wrong = odd_things() + [
        5, (1, 2, 3), (1, 2, 3, 4), good, tuple(good[:-1]), tuple(good) + ((0, 1),), (tuple(good),), (0, 1), ((0, 1),),
        [list(ink) for ink in good], tuple(list(ink) for ink in good), dict(enumerate(good)), set(good), "abcd"[:many],
        (tuple(good),) * many, ((0, 1),) * 5, ((0, 1),) * 2, (50,) * many,
    ]
    others = odd_things() + NO_SHARES + [as_share(number) for number in BEYOND]
    for other in others + [(Stubborn(), 1), (200, 2), (0, 3)]:
        for place in range(many):
            inks = list(good)
            inks[place] = other
            wrong.append(tuple(inks))
    return wrong


def told_inks(inks, many):
    """The Fractions that so many inks tell, after a look at their form."""
    assert type(inks) is tuple and len(inks) == many, inks
    return tuple(told(ink) for ink in inks)


def quartets():
    """Four inks, of all kinds of Fractions."""
    return list(product(INKS, repeat=4))[::3]


class InkCase(unittest.TestCase):
    def refused(self, deed, inks, **how):
        with self.assertRaises(BadInk):
            deed(inks, **how)


class TestWithBlack(InkCase):
    def test_told_by_hand(self):
        self.assertEqual(with_black(THREE), as_colour(20, 0, 50, 30))
        self.assertEqual(with_black(THREE, part=100), as_colour(20, 0, 50, 30))
        self.assertEqual(with_black(THREE, part=50), as_colour(35, 15, 65, 15))
        self.assertEqual(with_black(THREE, part=0), as_colour(50, 30, 80, 0))
        self.assertEqual(with_black(THREE, part=1), ((497, 10), (297, 10), (797, 10), (3, 10)))

    def test_at_0_and_100(self):
        for part in (0, 1, 50, 99, 100):
            self.assertEqual(with_black(as_colour(0, 0, 0), part=part), as_colour(0, 0, 0, 0))
            self.assertEqual(with_black(as_colour(100, 0, 100), part=part), as_colour(100, 0, 100, 0))
            self.assertEqual(with_black(as_colour(100, 100, 100), part=part), as_colour(*[100 - part] * 3, part))

    def test_by_fractions(self):
        for inks, part in product(product(INKS, repeat=3), (0, 1, 50, 77, 100)):
            black = Fraction(part, 100) * min(inks)
            got = told_inks(with_black(as_colour(*inks), part=part), 4)
            self.assertEqual(got, tuple(ink - black for ink in inks) + (black,))

    def test_refusals(self):
        for wrong in no_inks(3) + [FOUR]:
            self.refused(with_black, wrong)
            self.refused(with_black, wrong, part=101)
        for wrong in odd_things() + NO_PARTS:
            self.refused(with_black, THREE, part=wrong)
            self.refused(with_black, None, part=wrong)

    def test_the_part_is_handed_in_by_its_name(self):
        with self.assertRaises(TypeError):
            with_black(THREE, 50)


class TestWithoutBlack(InkCase):
    def test_told_by_hand(self):
        self.assertEqual(without_black(FOUR), as_colour(70, 50, 100))
        self.assertEqual(without_black(as_colour(0, 0, 0, 100)), as_colour(100, 100, 100))
        self.assertEqual(without_black(as_colour(0, 0, 0, 0)), as_colour(0, 0, 0))
        self.assertEqual(without_black(((1, 2), (1, 3), (1, 6), (1, 6))), ((2, 3), (1, 2), (1, 3)))

    def test_back_to_the_three(self):
        for inks, part in product(product(INKS, repeat=3), (0, 1, 50, 77, 100)):
            handed = as_colour(*inks)
            self.assertEqual(without_black(with_black(handed, part=part)), handed)

    def test_more_than_100(self):
        for place in range(3):
            inks = [Fraction(10), Fraction(10), Fraction(10), Fraction(40)]
            inks[place] = Fraction(60)
            wanted = [50, 50, 50]
            wanted[place] = 100
            self.assertEqual(without_black(as_colour(*inks)), as_colour(*wanted))
            inks[place] = 60 + BESIDE
            self.refused(without_black, as_colour(*inks))
            inks[place] = Fraction(100)
            self.refused(without_black, as_colour(*inks))
        self.refused(without_black, as_colour(100, 100, 100, BESIDE))

    def test_refusals(self):
        for wrong in no_inks(4) + [THREE]:
            self.refused(without_black, wrong)


class TestAllInk(InkCase):
    def test_told(self):
        self.assertEqual(all_ink(FOUR), (180, 1))
        self.assertEqual(all_ink(as_colour(100, 100, 100, 100)), (400, 1))
        self.assertEqual(all_ink(as_colour(0, 0, 0, 0)), (0, 1))
        self.assertEqual(all_ink(((1, 2), (1, 3), (1, 6), (1, 7))), (8, 7))
        for inks in quartets():
            self.assertEqual(told(all_ink(as_colour(*inks))), sum(inks))

    def test_refusals(self):
        for wrong in no_inks(4) + [THREE]:
            self.refused(all_ink, wrong)


class LimitCase(InkCase):
    def limit_refused(self, deed):
        """Look at what a limit refuses."""
        for wrong in no_inks(4) + [THREE]:
            self.refused(deed, wrong)
            self.refused(deed, wrong, most=0)
            self.refused(deed, wrong, most=401)
        for wrong in odd_things() + NO_LIMITS:
            self.refused(deed, FOUR, most=wrong)
            self.refused(deed, None, most=wrong)
        with self.assertRaises(TypeError):
            deed(FOUR, 300)

    def stays(self, deed, inks, **how):
        """Look whether inks stay as they are."""
        self.assertEqual(told_inks(deed(as_colour(*inks), **how), 4), tuple(inks))


class TestLimited(LimitCase):
    def test_told_by_hand(self):
        self.assertEqual(limited(FOUR, most=90), as_colour(25, 15, 40, 10))
        self.assertEqual(limited(FOUR, most=0), as_colour(0, 0, 0, 0))
        self.assertEqual(limited(as_colour(100, 100, 100, 100)), as_colour(75, 75, 75, 75))
        self.assertEqual(limited(as_colour(100, 100, 100, 100), most=1), ((1, 4), (1, 4), (1, 4), (1, 4)))

    def test_300_unless_told(self):
        self.stays(limited, (100, 100, 100, 0))
        self.stays(limited, (50, 80, 70, 100))
        self.assertEqual(limited(as_colour(100, 100, 90, 50)), limited(as_colour(100, 100, 90, 50), most=300))
        self.assertNotEqual(limited(as_colour(100, 100, 100, BESIDE)), as_colour(100, 100, 100, BESIDE))

    def test_less_just_and_more(self):
        self.stays(limited, FOUR_FRACTIONS, most=181)
        self.stays(limited, FOUR_FRACTIONS, most=180)
        self.stays(limited, (50, 30, 80, 20 - BESIDE), most=180)
        self.stays(limited, (100, 100, 100, 100), most=400)
        self.stays(limited, (0, 0, 0, 0), most=0)
        got = told_inks(limited(FOUR, most=179), 4)
        self.assertEqual(got, tuple(ink * Fraction(179, 180) for ink in FOUR_FRACTIONS))
        more = (50, 30, 80, 20 + BESIDE)
        got = told_inks(limited(as_colour(*more), most=180), 4)
        self.assertEqual(got, tuple(ink * 180 / (180 + BESIDE) for ink in more))

    def test_by_fractions_and_once_more(self):
        for inks, most in product(quartets(), LIMITS):
            got = limited(as_colour(*inks), most=most)
            measure = min(Fraction(1), Fraction(most) / sum(inks)) if sum(inks) > 0 else 1
            self.assertEqual(told_inks(got, 4), tuple(ink * measure for ink in inks))
            self.assertEqual(told(all_ink(got)), min(sum(inks), most))
            self.assertEqual(limited(got, most=most), got)

    def test_refusals(self):
        self.limit_refused(limited)


class TestBlackKept(LimitCase):
    def test_told_by_hand(self):
        self.assertEqual(black_kept(FOUR, most=100), as_colour(25, 15, 40, 20))
        self.assertEqual(black_kept(FOUR, most=20), as_colour(0, 0, 0, 20))
        self.assertEqual(black_kept(FOUR, most=19), as_colour(0, 0, 0, 19))
        self.assertEqual(black_kept(FOUR, most=0), as_colour(0, 0, 0, 0))
        self.assertEqual(black_kept(as_colour(100, 100, 100, 100)), as_colour(*[Fraction(200, 3)] * 3, 100))
        self.assertEqual(black_kept(as_colour(0, 0, 0, 50), most=20), as_colour(0, 0, 0, 20))
        self.assertEqual(black_kept(as_colour(10, 20, 30, 20 + BESIDE), most=20), as_colour(0, 0, 0, 20))

    def test_300_unless_told(self):
        self.stays(black_kept, (100, 100, 100, 0))
        self.stays(black_kept, (50, 80, 70, 100))
        self.assertEqual(black_kept(as_colour(100, 100, 90, 50)), black_kept(as_colour(100, 100, 90, 50), most=300))
        self.assertNotEqual(black_kept(as_colour(100, 100, 100, BESIDE)), as_colour(100, 100, 100, BESIDE))

    def test_less_just_and_more(self):
        self.stays(black_kept, FOUR_FRACTIONS, most=181)
        self.stays(black_kept, FOUR_FRACTIONS, most=180)
        self.stays(black_kept, (50, 30, 80, 20 - BESIDE), most=180)
        self.stays(black_kept, (100, 100, 100, 100), most=400)
        self.stays(black_kept, (0, 0, 0, 0), most=0)
        self.stays(black_kept, (0, 0, 0, 20), most=20)
        got = told_inks(black_kept(FOUR, most=179), 4)
        self.assertEqual(got, tuple(ink * Fraction(159, 160) for ink in FOUR_FRACTIONS[:3]) + (20,))
        more = (50, 30, 80 + BESIDE, 20)
        got = told_inks(black_kept(as_colour(*more), most=180), 4)
        self.assertEqual(got, tuple(ink * 160 / (160 + BESIDE) for ink in more[:3]) + (20,))

    def test_by_fractions_and_once_more(self):
        for inks, most in product(quartets(), LIMITS):
            got = black_kept(as_colour(*inks), most=most)
            three, black = inks[:3], inks[3]
            if black > most:
                wanted = (0, 0, 0, most)
            elif sum(inks) > most:
                wanted = tuple(ink * (most - black) / sum(three) for ink in three) + (black,)
            else:
                wanted = inks
            self.assertEqual(told_inks(got, 4), wanted)
            self.assertEqual(told(all_ink(got)), min(sum(inks), most))
            self.assertEqual(black_kept(got, most=most), got)

    def test_refusals(self):
        self.limit_refused(black_kept)


if __name__ == "__main__":
    unittest.main()
