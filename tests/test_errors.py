"""The refusals: their names and what they stand under."""

import unittest

from tintroads import errors

NAMES = [
    "BadNumber", "BadShare", "BadCurve", "BadSquare", "NoBack", "BadGrid",
    "BadColour", "BadIntent", "BadProfile", "BadInk", "BadText",
]


class TestErrors(unittest.TestCase):
    def test_all_are_there_straight_under_tint_error(self):
        for name in NAMES:
            with self.subTest(name=name):
                self.assertEqual(getattr(errors, name).__bases__, (errors.TintError,))

    def test_tint_error_stands_under_value_error(self):
        self.assertEqual(errors.TintError.__bases__, (ValueError,))

    def test_none_stands_under_another(self):
        for name in NAMES:
            for other in NAMES:
                under = issubclass(getattr(errors, name), getattr(errors, other))
                self.assertEqual(under, name == other, (name, other))

    def test_they_are_raised_and_taken(self):
        for name in NAMES:
            with self.assertRaises(errors.TintError):
                raise getattr(errors, name)("words")


if __name__ == "__main__":
    unittest.main()
