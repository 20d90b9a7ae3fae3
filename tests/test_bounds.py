"""The ten bounds of the interface [3] [4] [5] [12] [13] [15]."""

import unittest

from blindpush import bounds

VALUES = {
    "MAX_PLACES": 60, "MAX_ARCS": 12, "MAX_TOOLS": 4, "MAX_PLAN": 100, "MAX_COST": 100,
    "MAX_BUDGET": 10000, "SMALL_PLACES": 12, "SMALL_PUSHES": 6, "MAX_EDITS": 60, "BATCH": 20,
}


class Bounds(unittest.TestCase):
    def test_values(self):
        self.assertEqual({name: getattr(bounds, name) for name in VALUES}, VALUES)

    def test_they_are_numbers(self):
        for name in VALUES:
            self.assertIs(getattr(bounds, name).__class__, int, name)


if __name__ == "__main__":
    unittest.main()
