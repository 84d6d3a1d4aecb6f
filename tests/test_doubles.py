"""What is told of a double by its bits, held against Python's own floats."""

import math
import unittest

from pullswarm.doubles import is_above_zero, is_below_zero, is_finite
from tests.helper import (
    BELOW_ZERO, GREATEST, INFINITY, MINUS_GREATEST, MINUS_INFINITY, MINUS_SMALLEST, MINUS_ZERO, NOT_FINITE, PLUS_ZERO,
    SMALLEST, bits, worth,
)

FINITE = BELOW_ZERO + (
    PLUS_ZERO, MINUS_ZERO, SMALLEST, bits(2.0 ** -1022), bits(2.0 ** -1022) - 1, bits(0.1), bits(1.0), bits(1e300),
    GREATEST,
)


class DoublesTest(unittest.TestCase):
    def test_finite(self):
        for number in FINITE + NOT_FINITE:
            with self.subTest(number=number):
                self.assertEqual(is_finite(number), math.isfinite(worth(number)))

    def test_finite_at_its_edges(self):
        self.assertEqual([is_finite(GREATEST), is_finite(INFINITY)], [True, False])
        self.assertEqual([is_finite(MINUS_GREATEST), is_finite(MINUS_INFINITY)], [True, False])

    def test_below_and_above_zero_by_worth(self):
        for number in FINITE:
            with self.subTest(number=number):
                self.assertEqual(is_below_zero(number), worth(number) < 0.0)
                self.assertEqual(is_above_zero(number), worth(number) > 0.0)

    def test_zeros_and_their_neighbours(self):
        near = (MINUS_SMALLEST, MINUS_ZERO, PLUS_ZERO, SMALLEST)
        self.assertEqual([is_below_zero(number) for number in near], [True, False, False, False])
        self.assertEqual([is_above_zero(number) for number in near], [False, False, False, True])


if __name__ == "__main__":
    unittest.main()
