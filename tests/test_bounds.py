"""Promises 3, 4, 6, 7, 8 and 12: the bounds."""

import unittest

from whichheld import bounds

VALUES = {
    "MAX_NAME": 8, "MAX_TIMES": 8, "MAX_DEEP": 3, "MAX_NOTS": 2, "MAX_BY": 6, "MAX_PLACES": 24,
    "MAX_WEIGHT": 30, "MAX_RESTS": 2, "MAX_COMPARINGS": 2, "MAX_NEST": 3, "MAX_FAMILY": 5,
    "MAX_PERIOD": 1000000, "MAX_HEARD": 40, "MAX_LIES": 1, "MAX_EDITS": 60, "BATCH": 20,
}


class BoundsTest(unittest.TestCase):
    def test_each_name_has_its_value(self):
        for name, value in VALUES.items():
            with self.subTest(name):
                self.assertEqual(getattr(bounds, name), value)

    def test_each_value_is_an_integer(self):
        for name in VALUES:
            with self.subTest(name):
                self.assertIs(type(getattr(bounds, name)), int)


if __name__ == "__main__":
    unittest.main()
