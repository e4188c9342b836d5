"""The bounds: each name and its value."""
import unittest

from scenetongue import bounds

VALUES = {
    "LINES": 80, "SIGNS": 200, "FIGURES": 6, "BODIES": 40, "THINGS": 8, "LAMPS": 3, "LOOKS": 4,
    "LEAVES": 8, "CELLS": 12, "MIRRORS": 3, "LOGGED": 60,
}


class Bounds(unittest.TestCase):
    def test_each_bound_is_a_whole_number_of_its_value(self):
        for name, value in VALUES.items():
            with self.subTest(name):
                self.assertIs(type(getattr(bounds, name)), int)
                self.assertEqual(getattr(bounds, name), value)

    def test_nought_is_the_fraction(self):
        self.assertIs(type(bounds.NOUGHT), tuple)
        self.assertEqual([type(part) for part in bounds.NOUGHT], [int, int])
        self.assertEqual(bounds.NOUGHT, (0, 1))


if __name__ == "__main__":
    unittest.main()
