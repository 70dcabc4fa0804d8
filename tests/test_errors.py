"""Promise [2]: the errors."""

import unittest

from steadhold.errors import NotValid, SteadError
from steadhold.frames import Frames
from steadhold.slices import Slices


class Errors(unittest.TestCase):
    def test_family(self):
        self.assertEqual(SteadError.__bases__, (ValueError,))
        self.assertEqual(NotValid.__bases__, (SteadError,))

    def test_they_take_no_argument(self):
        self.assertIsInstance(NotValid(), ValueError)
        self.assertIsInstance(SteadError(), ValueError)

    def test_refusals_are_not_valid(self):
        for refused in (
            lambda: Slices([0] * 7),
            lambda: Slices([0] * 8).hand_on(4),
            lambda: Frames(8, [3, 3, 3, 0]),
        ):
            with self.assertRaises(SteadError) as caught:
                refused()
            self.assertIs(type(caught.exception), NotValid)


if __name__ == "__main__":
    unittest.main()
