"""Promise 4: filter."""

import unittest

from model import GREATEST, INFINITE, MINUS, NO_NUMBERS, ONE, Numbers, check_call, model_filtered, single
from tonebench.tones import filtered

STEP = 2.0 ** -12


class Filtered(unittest.TestCase):
    def check(self, factors, kept, given, row, after):
        check_call(self, filtered, [factors, kept, given], [0, len(row)] + row + [2] + after)

    def once(self, factors, kept, x, y, after):
        """One place, by values."""
        self.check(
            [single(factor) for factor in factors], [single(z) for z in kept], [single(x)],
            [single(y)], [single(z) for z in after],
        )

    def test_a_click_and_what_follows(self):
        self.check(
            [0x3E538EF3, 0x3ED38EF3, 0x3E538EF3, 0xBEBD2F1B, 0x3E487FCC], [0, 0],
            [0x3F800000, 0x00000000, 0x00000000, 0x00000000, 0x3E99999A, 0xBF333333, 0x3DE147AE, 0xBFF33333],
            [0x3E538EF3, 0x3EFAA4D1, 0x3EB1AE36, 0x3D049D78, 0x3BC46BBF, 0xBCCB08CC, 0xBE5C05B6, 0xBF10F5A1],
            [0xBF6DF47F, 0xBE9036DE],
        )

    def test_a_filter_that_has_kept_something(self):
        self.check(
            [0x3F8CCCCD, 0xBFF33333, 0x3F6E147B, 0xBFECCCCD, 0x3F7851EC], [0x3F333333, 0xBE4CCCCD],
            [0xBE99999A, 0x3ECCCCCD, 0xBF000000, 0x3F19999A, 0xBF333333, 0x3F4CCCCD, 0xBF666666, 0x3F800000],
            [0x3EBD70A3, 0x3FBF4BC7, 0x3F512203, 0x4002CB1B, 0x3F1D031E, 0x3FF5CD15, 0xBE5036FF, 0x3FA855D3],
            [0xBDDAB740, 0xBEB0FB15],
        )

    def test_each_number_has_its_part(self):
        # y = 2 + 13; z1 = 3 + (17 - 7 * 15); z2 = 5 - 11 * 15; and once more with x = -1.
        factors = [single(value) for value in (2.0, 3.0, 5.0, 7.0, 11.0)]
        self.check(
            factors, [single(13.0), single(17.0)], [ONE, single(-1.0)],
            [single(15.0), single(-87.0)], [single(446.0), single(952.0)],
        )

    def test_no_place(self):
        self.check([ONE] * 5, [single(3.0), MINUS], [], [], [single(3.0), MINUS])
        for bits in NO_NUMBERS:
            self.check([bits] * 5, [bits, ONE], [], [], [-1, ONE])
            self.check([ONE] * 5, [ONE, bits], [], [], [ONE, -1])

    def test_y_is_rounded_once(self):
        # b0 x is 1 + 2^-11 + 2^-24: rounded by itself it would lose the last part, and leave 0.
        self.once([1 + STEP, 0.0, 0.0, 0.0, 0.0], [-1 - 2 * STEP, 0.0], 1 + STEP, 2.0 ** -24, [0.0, 0.0])

    def test_the_outer_fma_of_z1_is_rounded_once(self):
        self.once([0.0, 1 + STEP, 0.0, 0.0, 0.0], [0.0, -1 - 2 * STEP], 1 + STEP, 0.0, [2.0 ** -24, 0.0])

    def test_the_inner_fnma_of_z1_is_rounded_once(self):
        # y is 1 + 2^-12, a1 y is 1 + 2^-11 + 2^-24.
        self.once([0.0, 0.0, 0.0, 1 + STEP, 0.0], [1 + STEP, 1 + 2 * STEP], 1.0, 1 + STEP, [-2.0 ** -24, 0.0])

    def test_the_inner_fnma_of_z1_is_rounded_for_itself(self):
        # 1 - 2^-25 is half way to 1, and 1 is the even one; with b1 x = -1 nothing is left.
        self.once([0.0, -1.0, 0.0, 2.0 ** -25, 0.0], [1.0, 1.0], 1.0, 1.0, [0.0, 0.0])

    def test_z2_is_rounded_once(self):
        # b2 x is 1 + 2^-11, a2 y is 1 + 2^-11 + 2^-24.
        self.once([0.0, 0.0, 1.0, 0.0, 1 + STEP], [1 + STEP, 0.0], 1 + 2 * STEP, 1 + STEP, [0.0, -2.0 ** -24])

    def test_the_product_in_z2_is_rounded(self):
        # b2 x is 1 + 2^-11 + 2^-24, rounded 1 + 2^-11, which is a2 y.
        self.once([0.0, 0.0, 1 + STEP, 0.0, 1.0], [1 + 2 * STEP, 0.0], 1 + STEP, 1 + 2 * STEP, [0.0, 0.0])

    def test_ties_to_even(self):
        tie = 2.0 ** -24
        last = 2.0 ** -23
        self.once([1.0, 0.0, 0.0, 0.0, 0.0], [tie, 0.0], 1.0, 1.0, [0.0, 0.0])
        self.once([1.0, 0.0, 0.0, 0.0, 0.0], [tie, 0.0], 1 + last, 1 + 2 * last, [0.0, 0.0])
        self.once([0.0, 1.0, 0.0, 0.0, 0.0], [0.0, tie], 1.0, 0.0, [1.0, 0.0])
        self.once([0.0, 1.0, 0.0, 0.0, 0.0], [0.0, tie], 1 + last, 0.0, [1 + 2 * last, 0.0])
        # 3 (1 + 2^-23) and 3 (1 + 3 2^-23) are each half way between two singles.
        self.once([0.0, 0.0, 3.0, 0.0, 0.0], [0.0, 0.0], 1 + last, 0.0, [0.0, 3 + 4 * last])
        self.once([0.0, 0.0, 3.0, 0.0, 0.0], [0.0, 0.0], 1 + 3 * last, 0.0, [0.0, 3 + 8 * last])

    def test_numbers_below_the_normal_ones(self):
        root = 2.0 ** -75
        least = 2.0 ** -149
        self.once([root, 0.0, 0.0, 0.0, 0.0], [0.0, 0.0], root, 0.0, [0.0, 0.0])
        self.once([root, 0.0, 0.0, 0.0, 0.0], [0.0, 0.0], 3 * root, 2 * least, [0.0, 0.0])
        self.once([root, 0.0, 0.0, 0.0, 0.0], [least, 0.0], root, 2 * least, [0.0, 0.0])
        self.once([0.0, root, 3 * root, 0.0, 0.0], [0.0, least], root, 0.0, [2 * least, 2 * least])
        normal = 2.0 ** -126
        self.once([0.0, 0.0, 0.0, 1.0, 1.0], [normal, normal - least], 1.0, normal, [-least, -normal])

    def test_signs_of_zeros(self):
        signs = (0, MINUS)
        for pick in range(128):
            b0, b1, b2, a1, a2, z1, z2 = [signs[pick >> k & 1] for k in range(7)]
            y = b0 & z1
            inner = z2 & ~(a1 ^ y) & MINUS
            self.check([b0, b1, b2, a1, a2], [z1, z2], [ONE], [y], [b1 & inner, b2 & ~(a2 ^ y) & MINUS])

    def test_what_cancels_is_plus_zero(self):
        self.once([1.0, 1.0, 1.0, 0.0, 0.0], [-3.0, -3.0], 3.0, 0.0, [0.0, 3.0])
        self.once([0.0, 0.0, 1.0, 1.0, 1.0], [-3.0, -3.0], -3.0, -3.0, [0.0, 0.0])

    def test_infinities(self):
        down = INFINITE | MINUS
        self.check([ONE, ONE, ONE, ONE, ONE], [0, 0], [INFINITE], [INFINITE], [-1, -1])
        self.check([ONE, ONE, ONE, single(-1.0), single(-1.0)], [0, 0], [INFINITE], [INFINITE], [INFINITE, INFINITE])
        self.check([ONE, ONE, ONE, single(-1.0), single(-1.0)], [0, 0], [down], [down], [down, down])
        self.check([ONE, 0, 0, ONE, ONE], [INFINITE, 0], [ONE], [INFINITE], [down, down])
        self.check([ONE, ONE, ONE, 0, 0], [0, INFINITE], [ONE], [ONE], [INFINITE, ONE])
        self.check([ONE, ONE, ONE, ONE, 0], [INFINITE, INFINITE], [ONE], [INFINITE], [-1, -1])
        self.check([0, 0, 0, 0, 0], [0, 0], [INFINITE], [-1], [-1, -1])

    def test_results_past_the_greatest(self):
        two = single(2.0)
        self.check([two, two, two, 0, 0], [0, 0], [GREATEST], [INFINITE], [-1, -1])
        self.check([0, two, two, 0, 0], [0, 0], [GREATEST], [0], [INFINITE, INFINITE])
        # 2^128 is past the greatest, but what is rounded once is 2^127.
        self.once([2.0, 0.0, 0.0, 0.0, 0.0], [-2.0 ** 127, 0.0], 2.0 ** 127, 2.0 ** 127, [0.0, 0.0])
        self.once([0.0, 0.0, 1.0, 0.0, 2.0], [2.0 ** 127, 0.0], 2.0 ** 127, 2.0 ** 127, [0.0, -2.0 ** 127])

    def test_no_number_is_told_and_spreads(self):
        for bits in NO_NUMBERS:
            self.check([ONE] * 5, [0, 0], [ONE, bits, ONE], [ONE, -1, -1], [-1, -1])
            self.check([ONE] * 5, [bits, 0], [ONE], [-1], [-1, -1])
            self.check([ONE] * 5, [0, bits], [ONE, ONE], [ONE, -1], [-1, -1])
            self.check([bits, ONE, ONE, ONE, ONE], [0, 0], [ONE], [-1], [-1, -1])
            self.check([ONE, bits, ONE, ONE, ONE], [0, 0], [ONE, ONE], [ONE, -1], [-1, -1])
            self.check([ONE, ONE, bits, ONE, ONE], [0, 0], [ONE], [ONE], [0, -1])
            self.check([ONE, ONE, ONE, bits, ONE], [0, 0], [ONE], [ONE], [-1, 0])
            self.check([ONE, ONE, ONE, ONE, bits], [0, 0], [ONE], [ONE], [0, -1])

    def test_the_most_places(self):
        self.check([ONE, 0, 0, 0, 0], [0, 0], list(range(4096)), list(range(4096)), [0, 0])
        factors = [0x3E538EF3, 0x3ED38EF3, 0x3E538EF3, 0xBEBD2F1B, 0x3E487FCC]
        given = [ONE | (k % 7 << 20) | (k % 2 << 31) for k in range(4096)]
        self.assertEqual(model_filtered(factors, [0, 0], given), filtered(factors, [0, 0], given))

    def test_refused_rows(self):
        for count in (4097, 4098, 4200):
            check_call(self, filtered, [[ONE, 0, 0, 0, 0], [0, 0], [ONE] * count], [-1])

    def test_numbers_of_all_sorts(self):
        numbers = Numbers(4)
        for _ in range(1500):
            factors, kept, given = numbers.singles(5), numbers.singles(2), numbers.singles(numbers.below(6))
            expected = model_filtered(factors, kept, given)
            self.assertEqual(expected, filtered(factors, kept, given), (factors, kept, given))


if __name__ == "__main__":
    unittest.main()
