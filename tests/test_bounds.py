"""The bounds of point 3 and the interface."""

import unittest

from ringpostfix import bounds

VALUES = {
    "MAX_ARITY": 5,
    "MAX_TOKENS": 24,
    "MAX_LENGTH": 1000000000000,
    "MAX_RUNS": 12,
    "MAX_COUNTED": 10,
    "MAX_EDITS": 60,
    "BATCH": 20,
}


class BoundsTest(unittest.TestCase):
    def test_each_bound_has_its_value(self):
        for name, value in VALUES.items():
            with self.subTest(name=name):
                self.assertEqual(getattr(bounds, name), value)
                self.assertIs(type(getattr(bounds, name)), int)


if __name__ == "__main__":
    unittest.main()
