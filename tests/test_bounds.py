"""The bounds of points 2, 10, 11 and 19."""

import unittest

from secondread import bounds
from tests.helper import PromiseCase

WANTED = {
    "MOST_PAPERS": 10,
    "MOST_READERS": 8,
    "MOST_HOUSES": 6,
    "MOST_LIMIT": 30,
    "MOST_POINTS": 100,
    "MOST_STEP": 100,
}


class BoundsTest(PromiseCase):
    def test_each_bound_is_this_whole_number(self):
        for name, value in WANTED.items():
            with self.subTest(name):
                self.assert_whole(getattr(bounds, name))
                self.assertEqual(getattr(bounds, name), value)


if __name__ == "__main__":
    unittest.main()
