"""[4]: the bounds."""

import unittest

from stintpurse import bounds

VALUES = {
    "MOST": 1000000000000,
    "BOOKS": 60,
    "DEEP": 12,
    "COPIES": 1000000000000000,
    "ROW": 400,
    "SMALL": 60,
    "FRONTS": 2000,
    "DEEDS": 200,
    "LOG": 100,
}


class Bounds(unittest.TestCase):
    def test_each_has_the_value_told(self):
        for name, value in VALUES.items():
            self.assertEqual(getattr(bounds, name), value, name)
            self.assertIs(getattr(bounds, name).__class__, int, name)


if __name__ == "__main__":
    unittest.main()
