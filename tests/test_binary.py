"""The arithmetic where no call leads to by itself, as floor of great doubles, or a quotient below 0."""

import unittest
from fractions import Fraction

from model import (
    DOUBLE_INFINITE, DOUBLE_MINUS, GREATEST, INFINITE, MINUS, NO_NUMBERS, ONE, Numbers, double, nearest_single, single,
    value_of,
)
from tonebench.binary import (
    DOUBLE, SINGLE, double_of_single, finite_quotient, floor, is_finite, is_no_number, less, not_less, single_of_double,
    whole_below,
)


class Binary(unittest.TestCase):
    def test_floor(self):
        floors = {
            0.0: 0.0, 0.5: 0.0, 1.0: 1.0, 1.5: 1.0, -0.5: -1.0, -1.0: -1.0, -1.5: -2.0, 5e-324: 0.0, -5e-324: -1.0,
            2.0 ** 51 + 0.5: 2.0 ** 51, -(2.0 ** 51) - 0.5: -(2.0 ** 51) - 1.0,
            2.0 ** 52 + 1.0: 2.0 ** 52 + 1.0, 2.0 ** 53: 2.0 ** 53, -3 * 2.0 ** 900: -3 * 2.0 ** 900,
        }
        for value, below in floors.items():
            self.assertEqual(double(below), floor(double(value)), value)
            self.assertEqual(int(below), whole_below(DOUBLE, double(value)), value)

    def test_floor_of_minus_zero_keeps_the_sign(self):
        self.assertEqual(double(-0.0), floor(double(-0.0)))

    def test_a_double_as_a_single(self):
        self.assertEqual(0, single_of_double(double(0.0)))
        self.assertEqual(MINUS, single_of_double(double(-0.0)))
        self.assertEqual(MINUS, single_of_double(double(-(2.0 ** -150))))
        self.assertEqual(MINUS | 1, single_of_double(double(-(2.0 ** -149))))
        self.assertEqual(single(-1.5), single_of_double(double(-1.5)))
        self.assertEqual(single(1.0), single_of_double(double(1.0 + 2.0 ** -24)))
        self.assertEqual(single(1.0 + 2.0 ** -23), single_of_double(double(1.0 + 2.0 ** -24 + 2.0 ** -52)))
        self.assertEqual(INFINITE, single_of_double(double(2.0 ** 128)))

    def test_a_single_as_a_double(self):
        for value in (0.0, -0.0, 1.0, -1.5, 2.0 ** -149, -(2.0 ** -149), 2.0 ** -126, -3 * 2.0 ** 100):
            self.assertEqual(double(value), double_of_single(single(value)))
        self.assertEqual(double(-value_of(GREATEST)), double_of_single(GREATEST | MINUS))
        self.assertEqual(DOUBLE_INFINITE, double_of_single(INFINITE))
        self.assertEqual(DOUBLE_INFINITE | DOUBLE_MINUS, double_of_single(INFINITE | MINUS))
        for bits in NO_NUMBERS:
            self.assertTrue(is_no_number(DOUBLE, double_of_single(bits)))

    def test_quotients(self):
        two = single(2.0)
        # Half of 1, 3 and 5 times the least number are ties; with a little more or less they are none.
        self.assertEqual([0, 2, 2], [finite_quotient(SINGLE, bits, two) for bits in (1, 3, 5)])
        self.assertEqual([1, 2, 3], [finite_quotient(SINGLE, bits, two - 1) for bits in (1, 3, 5)])
        self.assertEqual([0, 1, 2], [finite_quotient(SINGLE, bits, two + 1) for bits in (1, 3, 5)])
        self.assertEqual(MINUS | two, finite_quotient(SINGLE, single(6.0), single(-3.0)))
        self.assertEqual(two, finite_quotient(SINGLE, single(-6.0), single(-3.0)))
        self.assertEqual(MINUS, finite_quotient(SINGLE, 0, single(-3.0)))
        self.assertEqual(INFINITE | MINUS, finite_quotient(SINGLE, GREATEST, MINUS | 1))

    def test_quotients_of_all_sorts(self):
        numbers = Numbers(16)
        for _ in range(3000):
            x, y = numbers.single(), numbers.single()
            if is_finite(SINGLE, x) and is_finite(SINGLE, y) and value_of(x) and value_of(y):
                expected = nearest_single(Fraction(value_of(x)) / Fraction(value_of(y)))
                self.assertEqual(expected, finite_quotient(SINGLE, x, y), (x, y))

    def test_comparisons(self):
        ordered = [INFINITE | MINUS, GREATEST | MINUS, single(-1.0), MINUS | 1, 0, 1, ONE, GREATEST, INFINITE]
        for k, x in enumerate(ordered):
            for j, y in enumerate(ordered):
                self.assertEqual((k < j, k >= j), (less(SINGLE, x, y), not_less(SINGLE, x, y)))
        self.assertFalse(less(SINGLE, MINUS, 0) or less(SINGLE, 0, MINUS))
        self.assertTrue(not_less(SINGLE, MINUS, 0) and not_less(SINGLE, 0, MINUS))

    def test_no_number_is_less_or_not_less(self):
        for bits in NO_NUMBERS:
            for x in (bits, 0, ONE, single(-1.0), INFINITE, INFINITE | MINUS):
                for compare in (less, not_less):
                    self.assertFalse(compare(SINGLE, x, bits) or compare(SINGLE, bits, x))


if __name__ == "__main__":
    unittest.main()
