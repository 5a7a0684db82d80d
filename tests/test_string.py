"""Promise 5: string."""

import unittest

from model import (
    GREATEST, INFINITE, MINUS, NO_NUMBERS, ONE, WRONG_COUNTS, Numbers, check_call, model_string, single,
)
from tonebench.tones import string

HALF = single(0.5)
TWO = single(2.0)


class String(unittest.TestCase):
    def check(self, damp, held, at, row, after, place):
        expected = [0, len(row)] + row + [len(after)] + after + [1, place]
        check_call(self, string, [[damp], held, [at], [len(row)]], expected)

    def first(self, damp, u, w, then):
        """One place on a string of two: then stands in the place of u."""
        self.check(damp, [u, w], 0, [u], [then, w], 1)

    def test_a_pluck(self):
        self.check(
            0x3F7EF9DB, [0x3F666666, 0xBECCCCCD, 0x3E19999A, 0xBF19999A, 0x3EA8F5C3], 3,
            [0xBF19999A, 0x3EA8F5C3, 0x3F666666, 0xBECCCCCD, 0x3E19999A, 0xBE09AFE2, 0x3F1CCF6C, 0x3E7EF9DA,
             0xBDFEF9DB, 0x3BFD96C8, 0x3E73CC40, 0x3EDBAC09, 0x3D7DF4C0],
            [0x3AFB905D, 0xBD6E2B90, 0x3DFAB732, 0x3EAA1A32, 0x3E7A692E], 1,
        )

    def test_the_place_goes_round(self):
        # At the last place the next one is the first.
        held = [single(value) for value in (1.0, 3.0, 7.0)]
        self.check(ONE, held, 2, [single(7.0)], [ONE, single(3.0), single(4.0)], 0)
        # The first place is changed by then: 1, 3, 7 becomes 2, 5, 4.5.
        self.check(ONE, held, 0, held, [TWO, single(5.0), single(4.5)], 0)

    def test_a_string_of_one(self):
        self.check(HALF, [single(8.0)], 0, [single(8.0), single(4.0), TWO], [ONE], 0)
        # The next one is itself: the sum is past the greatest, and half of it is, too.
        self.check(ONE, [GREATEST], 0, [GREATEST, INFINITE], [INFINITE], 0)

    def test_no_place(self):
        held = [ONE, MINUS, INFINITE, 1]
        for at in range(4):
            self.check(ONE, held, at, [], held, at)
        for bits in NO_NUMBERS:
            self.check(bits, [ONE, bits], 1, [], [ONE, -1], 1)

    def test_the_sum_is_rounded(self):
        # 1 + 2^-24 is half way, and 1 is even; unrounded, times damp it would be nearer to 1 + 2^-22.
        self.first(ONE + 1, ONE, single(2.0 ** -24), HALF + 1)
        self.first(ONE, ONE + 1, single(2.0 ** -24), HALF + 2)
        self.first(ONE, ONE, single(2.0 ** -24) + 1, HALF + 1)

    def test_the_sum_goes_past_the_greatest(self):
        self.first(ONE, GREATEST, GREATEST, INFINITE)
        self.first(ONE, GREATEST | MINUS, GREATEST | MINUS, INFINITE | MINUS)
        self.first(0, GREATEST, GREATEST, -1)
        self.first(ONE, GREATEST, single(2.0 ** 103), INFINITE)
        self.first(ONE, GREATEST, single(2.0 ** 103) - 1, 0x7EFFFFFF)

    def test_the_half_is_rounded(self):
        # Half of the least number is half way to 0; one and a half go to two, and so do two and a half.
        self.first(single(1024.0), 1, 0, 0)
        self.first(TWO, 1, 2, 4)
        self.first(TWO, 2, 3, 4)
        self.first(TWO, 3, 4, 8)
        self.first(single(-1024.0), 1, 0, MINUS)

    def test_the_half_comes_before_damp(self):
        # Half of the least damp would be 0, twice the greatest number would be infinite.
        self.first(1, ONE, ONE, 1)
        self.first(TWO, GREATEST, 0, GREATEST)

    def test_the_product_with_damp_is_rounded(self):
        # 3 (1 + 2^-23) and 3 (1 + 3 2^-23) are each half way between two singles.
        self.first(single(3.0), ONE + 1, ONE + 1, single(3.0) + 2)
        self.first(single(3.0), ONE + 3, ONE + 3, single(3.0) + 4)
        self.first(single(2.0 ** -75), single(2.0 ** -75), single(2.0 ** -75), 0)
        self.first(single(2.0 ** -75), single(3 * 2.0 ** -75), single(3 * 2.0 ** -75), 2)
        self.first(GREATEST, TWO, TWO, INFINITE)

    def test_numbers_below_the_normal_ones(self):
        self.first(ONE, 0x00800000, 0x00800000, 0x00800000)
        self.first(ONE, 0x00800000, 0, 0x00400000)
        self.first(ONE, 0x007FFFFF, 0x00000001, 0x00400000)
        self.first(HALF, 0x007FFFFF, 0x007FFFFF, 0x00400000)

    def test_signs_of_zeros(self):
        self.first(ONE, MINUS, MINUS, MINUS)
        self.first(ONE, MINUS, 0, 0)
        self.first(ONE, 0, MINUS, 0)
        self.first(single(-1.0), MINUS, MINUS, 0)
        self.first(single(-1.0), 0, 0, MINUS)
        self.first(MINUS, ONE, ONE, MINUS)
        self.first(ONE, single(3.0), single(-3.0), 0)
        self.first(ONE, single(-3.0), single(3.0), 0)

    def test_infinities(self):
        down = INFINITE | MINUS
        self.first(HALF, INFINITE, ONE, INFINITE)
        self.first(single(-1.0), ONE, INFINITE, down)
        self.first(ONE, INFINITE, down, -1)
        self.first(0, INFINITE, INFINITE, -1)
        self.first(INFINITE, ONE, ONE, INFINITE)
        self.first(INFINITE, ONE, single(-1.0), -1)

    def test_no_number_is_told_and_spreads(self):
        for bits in NO_NUMBERS:
            self.check(ONE, [ONE, bits, ONE], 0, [ONE], [-1, -1, ONE], 1)
            self.check(ONE, [ONE, bits, ONE], 1, [-1], [ONE, -1, ONE], 2)
            self.check(ONE, [bits, ONE, ONE], 1, [ONE, ONE, -1], [-1, ONE, -1], 1)
            self.check(bits, [ONE, ONE], 0, [ONE, ONE, -1], [-1, -1], 1)

    def test_more_places_than_the_string_is_long(self):
        # 8, 8 becomes 4, 3 (half of 6), then 1.75, 1.1875.
        eight = single(8.0)
        self.check(
            HALF, [eight, eight], 0, [eight, eight, single(4.0), single(3.0)], [single(1.75), single(1.1875)], 0,
        )

    def test_the_most_places(self):
        self.check(ONE, [HALF], 0, [HALF] * 4096, [HALF], 0)
        held = [0x3F666666, 0xBECCCCCD, 0x3E19999A, 0xBF19999A, 0x3EA8F5C3, 0x3F000001, 0xBF333333]
        self.assertEqual(model_string(0x3F7EF9DB, held, 6, 4096), string([0x3F7EF9DB], held, [6], [4096]))

    def test_the_longest_string(self):
        held = [ONE + k for k in range(4096)]
        self.check(ONE, held, 4095, [ONE + 4095], held[:4095] + [ONE + 2048], 0)
        check_call(self, string, [[ONE], held, [4095], [4096]], model_string(ONE, held, 4095, 4096))

    def test_refused_strings(self):
        for count in (0, 4097, 4098, 4200):
            for at in (0, count - 1):
                for n in (0, 1):
                    check_call(self, string, [[ONE], [ONE] * count, [at], [n]], [-1])

    def test_refused_places(self):
        for count in (1, 2, 5, 4096):
            for at in (-1, count, count + 1, -count, -2147483648, 2147483647):
                for n in (0, 1):
                    check_call(self, string, [[ONE], [ONE] * count, [at], [n]], [-1])

    def test_refused_counts(self):
        for n in WRONG_COUNTS:
            for count in (1, 4096):
                check_call(self, string, [[ONE], [ONE] * count, [0], [n]], [-1])

    def test_numbers_of_all_sorts(self):
        numbers = Numbers(5)
        for _ in range(1500):
            damp, held, n = numbers.single(), numbers.singles(1 + numbers.below(5)), numbers.below(9)
            at = numbers.below(len(held))
            expected = model_string(damp, held, at, n)
            self.assertEqual(expected, string([damp], held, [at], [n]), (damp, held, at, n))


if __name__ == "__main__":
    unittest.main()
