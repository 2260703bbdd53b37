"""The error classes: each straight under RoadError, and RoadError straight under ValueError."""

import unittest

from jamroad.errors import BadCar, BadCars, BadRing, BadSteps, RoadError


class ErrorClasses(unittest.TestCase):
    def test_road_error_is_straight_under_value_error(self):
        self.assertEqual(RoadError.__bases__, (ValueError,))

    def test_each_refusal_is_straight_under_road_error(self):
        for error in (BadCars, BadCar, BadSteps, BadRing):
            with self.subTest(error=error.__name__):
                self.assertEqual(error.__bases__, (RoadError,))


if __name__ == "__main__":
    unittest.main()
