"""Texts: promise 15, and promise 1 as far as it speaks of them."""

import unittest
from itertools import product

from tests.things import as_colour, odd_things, rough_grid, table_of
from tintroads.curves import Curve, JoinedCurve
from tintroads.errors import BadCurve, BadGrid, BadText
from tintroads.grids import Grid
from tintroads.texts import curve_read, curve_text, grid_read, grid_text

SMALL = """knots 2
0 0 0: 0 0 0
0 0 1: 1 20 300
0 1 0: 1000 1000 1000
0 1 1: 10 0 100
1 0 0: 5 6 7
1 0 1: 999 100 0
1 1 0: 0 0 1000
1 1 1: 8 9 10"""
SMALL_TABLE = {
    (0, 0, 0): (0, 0, 0), (0, 0, 1): (1, 20, 300), (0, 1, 0): (1000, 1000, 1000), (0, 1, 1): (10, 0, 100),
    (1, 0, 0): (5, 6, 7), (1, 0, 1): (999, 100, 0), (1, 1, 0): (0, 0, 1000), (1, 1, 1): (8, 9, 10),
}
CURVES = {
    "0 0, 60 60": [(0, 0), (60, 60)],
    "0 0, 1 0": [(0, 0), (1, 0)],
    "0 1000, 1000 1000": [(0, 1000), (1000, 1000)],
    "0 5, 10 5, 30 50, 60 53": [(0, 5), (10, 5), (30, 50), (60, 53)],
    "0 0, 1 2, 2 4, 3 6, 4 8, 5 10, 6 12, 7 14, 8 16, 9 18, 10 20, 100 999":
        [(at, 2 * at) for at in range(11)] + [(100, 999)],
}
# Figures of other scripts, signs that stand over figures, and full-width ones: Python's int reads most of them.
OTHER_FIGURES = ["\u0661", "\u0967", "\uff11", "\u00b2", "\u00bd", "\u2460", "\u0e51", "\U0001d7cf", "I", "l", "x", "a"]
NEEDLESS = ["00", "01", "007", "0000", "00000000001", "+0", "+1", "-0", "-1", "1_0", "0x1", "1e1", "1.0", "1.", "1,0"]
TOO_GREAT = ["1001", "9999", "10000", "12345678901234567890", "1" + "0" * 5000, "9" * 100000]
BLANKS = ["", " ", "  ", "\t", "\n", "\r", "\r\n", "\x0b", "\x0c", "\x1c", "\x85", "\u00a0", "\u2028", "\u3000", "\0",
          "\ufeff", "\u200b"]
NO_TEXTS = [5, 0, SMALL.encode("ascii"), [SMALL], (SMALL,), {SMALL: SMALL}, {SMALL}, SMALL.split("\n"), bytearray(b"0 0")]


def changed(text):
    """Texts that differ from one by a sign more, less or other, or two signs turned about."""
    signs = list(" 0159:,kKs-+\n\r\t") + ["\u0661", "\u00a0", ""]
    made = set()
    for at in range(len(text) + 1):
        for sign in signs:
            made |= {text[:at] + sign + text[at:], text[:at] + sign + text[at + 1:]}
        made.add(text[:at] + text[at:at + 2][::-1] + text[at + 2:])
    made.discard(text)
    return sorted(made)


class GridCase(unittest.TestCase):
    def refused(self, text):
        with self.assertRaises(BadText):
            grid_read(text)

    def read_alike(self, grid):
        """Look whether a grid that is written and read is the same one."""
        text = grid_text(grid)
        again = grid_read(text)
        self.assertIsInstance(again, Grid)
        self.assertEqual(grid_text(again), text)
        self.assertEqual(again.size(), grid.size())
        for place in product(range(grid.size()[0]), repeat=3):
            self.assertEqual(again.knot(place), grid.knot(place))
            self.assertEqual({type(number) for number in again.knot(place)}, {int})
        for colour in (as_colour(0, 60, 30), as_colour(7, 7, 59), ((1, 3), (119, 2), (60, 1))):
            for way in ("four", "eight"):
                self.assertEqual(again.worth(colour, way=way), grid.worth(colour, way=way))


class TestGridText(GridCase):
    def test_told_by_hand(self):
        self.assertEqual(grid_text(Grid(2, SMALL_TABLE)), SMALL)

    def test_row_by_row(self):
        for knots in range(2, 8):
            grid = rough_grid(knots)
            rows = grid_text(grid).split("\n")
            self.assertEqual(rows[0], "knots " + str(knots))
            places = sorted(product(range(knots), repeat=3))
            self.assertEqual(len(rows), 1 + len(places))
            for row, (a, b, c) in zip(rows[1:], places):
                one, two, three = grid.knot((a, b, c))
                self.assertEqual(row, f"{a} {b} {c}: {one} {two} {three}")

    def test_the_order_of_the_table_does_not_matter(self):
        turned = dict(reversed(list(SMALL_TABLE.items())))
        self.assertEqual(grid_text(Grid(2, turned)), SMALL)

    def test_no_grid(self):
        for wrong in odd_things(Grid) + [5, SMALL, SMALL_TABLE, (2, SMALL_TABLE), [Grid(2, SMALL_TABLE)]]:
            with self.assertRaises(BadGrid):
                grid_text(wrong)

    def test_the_grid_stays(self):
        table = dict(SMALL_TABLE)
        grid = Grid(2, table)
        grid_text(grid)
        self.assertEqual((table, grid.table, grid.size()), (SMALL_TABLE, SMALL_TABLE, (2, 60)))


class TestGridRead(GridCase):
    def test_told_by_hand(self):
        grid = grid_read(SMALL)
        self.assertEqual(grid.size(), (2, 60))
        for place, worth in SMALL_TABLE.items():
            self.assertEqual(grid.knot(place), worth)

    def test_read_back(self):
        for knots in range(2, 8):
            self.read_alike(rough_grid(knots, seed=knots))
            for number in (0, 1000):
                self.read_alike(Grid(knots, table_of(knots, lambda a, b, c: (number, number, number))))

    def test_two_of_a_text_are_two_grids(self):
        one, other = grid_read(SMALL), grid_read(SMALL)
        one.table[(0, 0, 0)] = (9, 9, 9)
        self.assertEqual(other.knot((0, 0, 0)), (0, 0, 0))
        self.assertEqual(grid_read(SMALL).knot((0, 0, 0)), (0, 0, 0))

    def test_rows(self):
        rows = SMALL.split("\n")
        for at in range(len(rows)):
            self.refused("\n".join(rows[:at] + rows[at + 1:]))
            self.refused("\n".join(rows[:at] + [rows[at]] + rows[at:]))
            self.refused("\n".join(rows[:at] + [""] + rows[at:]))
            self.refused("\n".join(rows[:at] + [""] + rows[at + 1:]))
            self.refused("\n".join(rows[:at]))
            self.refused("\n".join(rows[at:at + 1]))
            for other in range(at):
                turned = list(rows)
                turned[at], turned[other] = turned[other], turned[at]
                self.refused("\n".join(turned))
                twice = list(rows)
                twice[at] = rows[other]
                self.refused("\n".join(twice))
        self.refused("\n".join(rows + ["1 1 2: 0 0 0"]))
        self.refused("\n".join(rows + ["2 0 0: 0 0 0"]))
        self.refused("\n".join(rows[:1] + rows[:0:-1]))
        self.refused(SMALL + "\n" + SMALL)

    def test_another_number_of_knots(self):
        rows = SMALL.split("\n")[1:]
        for first in ("knots 3", "knots 1", "knots 0", "knots 8", "knots 22", "knots -2", "knots", "knots ", "knot 2",
                      "2", "knots  2", " knots 2", "knots 2 ", "knots 02", "knots +2", "Knots 2", "KNOTS 2", "knots2",
                      "knots: 2", "knots 2:", "knots two", "knots 2 2", "knots \u0662", "knots \uff12", "", "knots\t2",
                      "knots 2\r", "knots " + "2" * 100000, "knots " + "0" * 5000 + "2"):
            self.refused("\n".join([first] + rows))
        self.refused("knots 1\n0 0 0: 0 0 0")
        self.refused("knots 0")
        self.refused("knots 2")
        for knots in (1, 8):
            written = [f"{a} {b} {c}: 0 0 0" for a, b, c in product(range(knots), repeat=3)]
            self.refused("\n".join([f"knots {knots}"] + written))

    def test_numbers(self):
        for place, start in (("1 0 1", "1 0 1: "), ("0 0 0", "0 0 0: "), ("1 1 1", "1 1 1: ")):
            row = [row for row in SMALL.split("\n") if row.startswith(start)][0]
            for wrong in OTHER_FIGURES + NEEDLESS + TOO_GREAT + BLANKS:
                for at in range(3):
                    words = ["5", "6", "7"]
                    words[at] = wrong
                    self.refused(SMALL.replace(row, start + " ".join(words)))
                    spots = place.split(" ")
                    spots[at] = wrong
                    self.refused(SMALL.replace(row, " ".join(spots) + ": 5 6 7"))
            for wrong in ("5 6", "5 6 7 8", "5", "", "5  6 7", " 5 6 7", "5 6 7 ", "5,6,7", "5, 6, 7", "(5, 6, 7)", "5:6 7"):
                self.refused(SMALL.replace(row, start + wrong))
            for wrong in ("{0}:5 6 7", "{0} : 5 6 7", "{0}:  5 6 7", "{0} 5 6 7", "{0}; 5 6 7", "{0}: : 5 6 7", " {0}: 5 6 7"):
                self.refused(SMALL.replace(row, wrong.format(place)))
            grid_read(SMALL.replace(row, start + "5 6 7"))

    def test_the_end(self):
        for blank in BLANKS[1:]:
            self.refused(SMALL + blank)
            self.refused(blank + SMALL)
            self.refused(SMALL.replace("\n", blank + "\n", 1))
            if blank != "\n":
                self.refused(SMALL.replace("\n", blank))
        self.refused(SMALL.replace("\n", "\r\n"))
        self.refused(SMALL.replace("\n", "\n\n"))
        for blank in BLANKS:
            self.refused(blank)

    def test_only_what_is_written_is_read(self):
        read = 0
        for text in changed(SMALL):
            try:
                grid = grid_read(text)
            except BadText:
                continue
            read += 1
            self.assertEqual(grid_text(grid), text)
        self.assertGreater(read, 50)

    def test_very_long_texts(self):
        self.refused(SMALL + "0" * 1000000)
        self.refused(" " * 1000000)
        self.refused("\n" * 1000000)
        self.refused("knots 7" + "\n0 0 0: 0 0 0" * 343)
        self.refused("knots 2\n" + "0 0 0: 0 0 0" * 100000)

    def test_no_texts(self):
        for wrong in odd_things() + NO_TEXTS + [Grid(2, SMALL_TABLE)]:
            self.refused(wrong)


class CurveCase(unittest.TestCase):
    def refused(self, text):
        with self.assertRaises(BadText):
            curve_read(text)


class TestCurveText(CurveCase):
    def test_told(self):
        for text, points in CURVES.items():
            self.assertEqual(curve_text(Curve(points)), text)

    def test_no_curve(self):
        curve = Curve([(0, 0), (60, 60)])
        others = [5, [(0, 0), (60, 60)], "0 0, 60 60", [curve], (curve,), JoinedCurve(curve, curve)]
        for wrong in odd_things(Curve) + others:
            with self.assertRaises(BadCurve):
                curve_text(wrong)

    def test_the_curve_stays(self):
        points = [(0, 5), (10, 5), (60, 53)]
        curve = Curve(points)
        curve_text(curve)
        self.assertEqual((points, curve.points), ([(0, 5), (10, 5), (60, 53)], [(0, 5), (10, 5), (60, 53)]))


class TestCurveRead(CurveCase):
    def test_read_back(self):
        for text, points in CURVES.items():
            curve, again = Curve(points), curve_read(text)
            self.assertIsInstance(again, Curve)
            self.assertEqual(curve_text(again), text)
            self.assertEqual((again.last(), again.ends(), again.steepest(), again.is_rising()),
                             (curve.last(), curve.ends(), curve.steepest(), curve.is_rising()))
            for place in ((0, 1), (1, 3), (curve.last(), 2) if curve.last() % 2 else (curve.last(), 1)):
                self.assertEqual(again.value(place), curve.value(place))
                self.assertEqual(again.back(curve.value(place)), curve.back(curve.value(place)))

    def test_how_many_points(self):
        twelve = [f"{at} {at}" for at in range(12)]
        self.assertEqual(curve_read(", ".join(twelve)).last(), 11)
        self.refused(", ".join(twelve + ["12 12"]))
        self.refused("0 0")
        self.refused("")

    def test_points_as_a_curve_has_them(self):
        for text in ("1 0, 60 60", "0 0, 0 60", "0 0, 60 60, 60 61", "0 0, 60 60, 59 61", "0 5, 60 4", "0 0, 5 9, 6 8, 7 9",
                     "60 60, 0 0", "0 0, 1001 5", "0 0, 60 1001", "0 1001, 60 1001", "0 0, 0 0", "0 0, 60 60, 60 60"):
            self.refused(text)

    def test_numbers(self):
        for wrong in OTHER_FIGURES + NEEDLESS + TOO_GREAT + BLANKS:
            for text in ("{0} 0, 60 1000", "0 {0}, 60 1000", "0 0, {0} 1000", "0 0, 60 {0}", "0 0, {0} 50, 60 1000",
                         "0 0, 30 {0}, 60 1000"):
                self.refused(text.format(wrong))

    def test_what_stands_between(self):
        for text in ("0 0,60 60", "0 0 60 60", "0 0,  60 60", "0 0 , 60 60", "0 0; 60 60", "0 0\n60 60", "0 0,\n60 60",
                     "0, 0, 60, 60", "0  0, 60 60", "0,0, 60,60", "(0, 0), (60, 60)", "0 0, 60", "0 0, 60 60 60", "0 0,,60 60",
                     "0 0, , 60 60", "0 0, 60 60,", "0 0, 60 60, ", ", 0 0, 60 60", ",0 0, 60 60", "0\t0, 60 60",
                     "0 0,\u00a060 60", "0\u00a00, 60 60", "00, 6060", "0 0, 60 60, 70", "[0 0, 60 60]"):
            self.refused(text)

    def test_the_end(self):
        for blank in BLANKS[1:]:
            self.refused("0 0, 60 60" + blank)
            self.refused(blank + "0 0, 60 60")
        for blank in BLANKS:
            self.refused(blank)

    def test_only_what_is_written_is_read(self):
        read = 0
        for text in CURVES:
            for other in changed(text):
                try:
                    curve = curve_read(other)
                except BadText:
                    continue
                read += 1
                self.assertEqual(curve_text(curve), other)
        self.assertGreater(read, 50)

    def test_very_long_texts(self):
        self.refused("0 0, 60 60" + "0" * 1000000)
        self.refused("0 0, 60 60" + ", 61 61" * 100000)
        self.refused("0 0" * 300000)
        self.refused(" " * 1000000)
        self.refused(", " * 500000)

    def test_no_texts(self):
        for wrong in odd_things() + NO_TEXTS + [b"0 0, 60 60", ["0 0", "60 60"], [(0, 0), (60, 60)]]:
            self.refused(wrong)


if __name__ == "__main__":
    unittest.main()
