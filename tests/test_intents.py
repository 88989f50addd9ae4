"""Intents: promise 10, and promise 1 as far as it speaks of them."""

import unittest
from fractions import Fraction
from itertools import product

from tests.things import (
    INTENTS, NO_COLOURS, NO_INTENTS, Stubborn, as_colour, led_by_rule, odd_things, told_colour,
)
from tintroads.errors import BadColour, BadIntent
from tintroads.intents import Ends, is_between, led_worth

HERE = {"white": (900, 800, 1000), "black": (100, 0, 50)}
THERE = {"white": (500, 1000, 300), "black": (20, 200, 299)}
BESIDE = Fraction(1, 10 ** 40)
NO_WORTHS = [
    5, "abc", b"abc", [900, 800, 700], (900, 800), (900, 800, 700, 600), (900,), ((900, 800, 700),),
    ((900, 1), (800, 1), (700, 1)), {0: 900, 1: 800, 2: 700}, {900, 800, 700}, (True, 800, 700), (900, True, 700),
    (900, 800, True), (None, 800, 700), (900, "800", 700), (900, 800, [700]), (Stubborn(), 800, 700),
    (1001, 800, 700), (900, 1001, 700), (900, 800, 1001), (900, 800, 10 ** 6000), (-1, 800, 700), (900, 800, -1),
]


def ends(told):
    """The Ends of a dict."""
    return Ends(**told)


def numbers_at(black, white):
    """Numbers at, above and below both ends."""
    middle = Fraction(black + white, 2)
    return [black, white, black - BESIDE, black + BESIDE, white - BESIDE, white + BESIDE, middle, -700, 5000]


class TestEnds(unittest.TestCase):
    def refused(self, **told):
        with self.assertRaises(BadIntent):
            Ends(**told)

    def test_with_and_without_a_black(self):
        worth = as_colour(450, 400, 500)
        bare = Ends(white=(900, 800, 1000))
        full = Ends(white=(900, 800, 1000), black=(0, 0, 0))
        there = ends(THERE)
        for intent in INTENTS:
            self.assertEqual(led_worth(worth, intent, here=bare, there=there),
                             led_worth(worth, intent, here=full, there=there))
        self.assertTrue(is_between(as_colour(0, 0, 0), bare))
        self.assertFalse(is_between(as_colour(0, 0, -1), bare))

    def test_at_the_edges(self):
        kept = Ends(white=(1000, 1000, 1000), black=(0, 0, 0))
        self.assertTrue(is_between(as_colour(0, 1000, 500), kept))
        Ends(white=(1, 1, 1))
        Ends(white=(1000, 1000, 1000), black=(999, 999, 999))
        self.refused(white=(1001, 1000, 1000))
        self.refused(white=(1000, 1000, 1000), black=(0, -1, 0))
        self.refused(white=(0, 0, 0))
        self.refused(white=(0, 0, 0), black=(-1, -1, -1))
        self.refused(white=(1002, 1002, 1002), black=(1001, 1001, 1001))

    def test_the_white_is_above_the_black_each_way(self):
        for way in range(3):
            for number in (500, 499, 0):
                white = [501, 501, 501]
                white[way] = number
                self.refused(white=tuple(white), black=(500, 500, 500))
            lone = [1000, 1000, 1000]
            lone[way] = 0
            self.refused(white=tuple(lone))
        self.refused(white=(1000, 1000, 1000), black=(1000, 1000, 1000))

    def test_no_worths(self):
        for wrong in odd_things() + NO_WORTHS:
            self.refused(white=wrong)
            self.refused(white=wrong, black=(0, 0, 0))
            self.refused(white=(1000, 1000, 1000), black=wrong)
            self.refused(white=wrong, black=wrong)

    def test_handed_in_by_their_names(self):
        for handed in (((1000, 1000, 1000),), ((1000, 1000, 1000), (0, 0, 0))):
            with self.assertRaises(TypeError):
                Ends(*handed)
        with self.assertRaises(TypeError):
            Ends(black=(0, 0, 0))

    def test_what_is_refused_changes_nothing(self):
        kept = ends(HERE)
        for told in ({"white": (5, 5, 5), "black": (5, 0, 0)}, {"white": None}, {"white": (9, 9, 9), "black": None}):
            with self.assertRaises(BadIntent):
                kept.__init__(**told)
        self.assertTrue(is_between(as_colour(100, 0, 1000), kept))
        self.assertFalse(is_between(as_colour(99, 0, 1000), kept))


class TestLedWorth(unittest.TestCase):
    def test_told(self):
        here, there = ends(HERE), ends(THERE)
        worth = as_colour(450, 400, 525)
        self.assertEqual(led_worth(worth, "same", here=here, there=there), worth)
        self.assertEqual(led_worth(worth, "white", here=here, there=there), ((250, 1), (500, 1), (315, 2)))
        self.assertEqual(led_worth(worth, "squeezed", here=here, there=there), ((230, 1), (600, 1), (599, 2)))
        self.assertEqual(led_worth(worth, "clipped", here=here, there=there), ((450, 1), (400, 1), (300, 1)))
        self.assertEqual(led_worth(as_colour(5, 1001, 299), "clipped", here=here, there=there),
                         ((20, 1), (1000, 1), (299, 1)))

    def test_whites_and_blacks(self):
        here, there = ends(HERE), ends(THERE)
        white, black = as_colour(*HERE["white"]), as_colour(*HERE["black"])
        self.assertEqual(led_worth(white, "white", here=here, there=there), as_colour(*THERE["white"]))
        self.assertEqual(led_worth(white, "squeezed", here=here, there=there), as_colour(*THERE["white"]))
        self.assertEqual(led_worth(black, "squeezed", here=here, there=there), as_colour(*THERE["black"]))
        self.assertEqual(led_worth(as_colour(0, 0, 0), "white", here=here, there=there), as_colour(0, 0, 0))

    def test_by_the_rule(self):
        every = [HERE, THERE, {"white": (1000, 1000, 1000), "black": (0, 0, 0)}, {"white": (1, 1000, 7), "black": (0, 999, 5)}]
        for here, there, intent in product(every, every, INTENTS):
            for first in (here, there):
                rows = [numbers_at(low, high) for low, high in zip(first["black"], first["white"])]
                for worth in list(zip(*rows)) + list(zip(rows[0], rows[1][1:] + rows[1][:1], rows[2][2:] + rows[2][:2])):
                    spans = [list(zip(told["black"], told["white"])) for told in (here, there)]
                    wanted = tuple(led_by_rule(Fraction(number), intent, near, far)
                                   for number, near, far in zip(worth, *spans))
                    led = led_worth(as_colour(*worth), intent, here=ends(here), there=ends(there))
                    self.assertEqual(told_colour(led), wanted)

    def test_beyond_the_ends_nothing_is_held_unless_clipped(self):
        here = Ends(white=(500, 500, 500), black=(100, 100, 100))
        there = Ends(white=(1000, 1000, 1000), black=(0, 0, 0))
        worth = as_colour(600, 50, -100)
        self.assertEqual(led_worth(worth, "squeezed", here=here, there=there), as_colour(1250, -125, -500))
        self.assertEqual(led_worth(worth, "white", here=here, there=there), as_colour(1200, 100, -200))
        self.assertEqual(led_worth(worth, "same", here=there, there=here), worth)
        self.assertEqual(led_worth(worth, "clipped", here=there, there=here), as_colour(500, 100, 100))

    def test_there_and_back_again(self):
        here, there = ends(HERE), ends(THERE)
        for worth in (as_colour(450, 400, 525), as_colour(0, 1000, -3), ((1, 3), (-7, 2), (10 ** 30, 7))):
            for intent in ("same", "white", "squeezed"):
                led = led_worth(worth, intent, here=here, there=there)
                self.assertEqual(led_worth(led, intent, here=there, there=here), worth)
        within = as_colour(100, 500, 300)
        led = led_worth(within, "clipped", here=here, there=there)
        self.assertEqual(led_worth(led, "clipped", here=there, there=here), within)

    def test_no_colour_comes_first(self):
        good = ends(HERE)
        for wrong in odd_things() + NO_COLOURS + [(450, 400, 525)]:
            for intent in INTENTS:
                self.refused(BadColour, wrong, intent, good, good)
            self.refused(BadColour, wrong, "none", good, good)
            self.refused(BadColour, wrong, None, None, None)
            self.refused(BadColour, wrong, "same", good, (900, 800, 1000))

    def test_no_intent(self):
        good = ends(HERE)
        for wrong in odd_things() + NO_INTENTS:
            self.refused(BadIntent, as_colour(1, 2, 3), wrong, good, good)
            self.refused(BadIntent, as_colour(1, 2, 3), wrong, None, good)

    def test_no_ends(self):
        good = ends(HERE)
        others = [5, (900, 800, 1000), (HERE["white"], HERE["black"]), HERE, [good], (good, good), "white"]
        for wrong in odd_things(Ends) + others:
            for intent in INTENTS:
                self.refused(BadIntent, as_colour(1, 2, 3), intent, wrong, good)
                self.refused(BadIntent, as_colour(1, 2, 3), intent, good, wrong)

    def refused(self, error, worth, intent, here, there):
        with self.assertRaises(error):
            led_worth(worth, intent, here=here, there=there)

    def test_ends_are_handed_in_by_their_names(self):
        good = ends(HERE)
        with self.assertRaises(TypeError):
            led_worth(as_colour(1, 2, 3), "same", good, good)
        with self.assertRaises(TypeError):
            led_worth(as_colour(1, 2, 3), "same", here=good)


class TestIsBetween(unittest.TestCase):
    def test_at_both_ends(self):
        within = ends(HERE)
        for way in range(3):
            low, high = HERE["black"][way], HERE["white"][way]
            for number, wanted in ((low, True), (high, True), (low + BESIDE, True), (high - BESIDE, True),
                                   (low - BESIDE, False), (high + BESIDE, False), (-5000, False), (10 ** 30, False)):
                worth = [450, 400, 525]
                worth[way] = number
                self.assertIs(is_between(as_colour(*worth), within), wanted)
        self.assertIs(is_between(as_colour(*HERE["white"]), within), True)
        self.assertIs(is_between(as_colour(*HERE["black"]), within), True)
        self.assertIs(is_between(as_colour(0, 0, 0), within), False)

    def test_refusals(self):
        for wrong in odd_things() + NO_COLOURS + [(450, 400, 525)]:
            for within in (ends(HERE), None, 5):
                with self.assertRaises(BadColour):
                    is_between(wrong, within)
        for wrong in odd_things(Ends) + [5, (900, 800, 1000), HERE, [ends(HERE)]]:
            with self.assertRaises(BadIntent):
                is_between(as_colour(1, 2, 3), wrong)


if __name__ == "__main__":
    unittest.main()
