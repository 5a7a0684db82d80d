"""The arithmetic where no call leads to by itself: floor of great doubles, and doubles as singles with a sign."""

import unittest

from model import INFINITE, MINUS, double, single
from tonebench.binary import DOUBLE, floor, single_of_double, whole_below


class Binary(unittest.TestCase):
    def test_floor(self):
        floors = {
            0.0: 0.0, 0.5: 0.0, 1.0: 1.0, 1.5: 1.0, -0.5: -1.0, -1.0: -1.0, -1.5: -2.0, 5e-324: 0.0, -5e-324: -1.0,
            2.0 ** 51 + 0.5: 2.0 ** 51, -(2.0 ** 51) - 0.5: -(2.0 ** 51) - 1.0,
            2.0 ** 52 + 1.0: 2.0 ** 52 + 1.0, 2.0 ** 53: 2.0 ** 53, -3 * 2.0 ** 900: -3 * 2.0 ** 900,
        }
        for value, below in floors.items():
            self.assertEqual(double(below), floor(double(value)), value)
            self.assertEqual(int(below), whole_below(DOUBLE, double(value)), value)

    def test_floor_of_minus_zero_keeps_the_sign(self):
        self.assertEqual(double(-0.0), floor(double(-0.0)))

    def test_a_double_as_a_single(self):
        self.assertEqual(0, single_of_double(double(0.0)))
        self.assertEqual(MINUS, single_of_double(double(-0.0)))
        self.assertEqual(MINUS, single_of_double(double(-(2.0 ** -150))))
        self.assertEqual(MINUS | 1, single_of_double(double(-(2.0 ** -149))))
        self.assertEqual(single(-1.5), single_of_double(double(-1.5)))
        self.assertEqual(single(1.0), single_of_double(double(1.0 + 2.0 ** -24)))
        self.assertEqual(single(1.0 + 2.0 ** -23), single_of_double(double(1.0 + 2.0 ** -24 + 2.0 ** -52)))
        self.assertEqual(INFINITE, single_of_double(double(2.0 ** 128)))


if __name__ == "__main__":
    unittest.main()
