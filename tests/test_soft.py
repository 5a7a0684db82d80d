"""Promise 6: soft."""

import unittest

from model import (
    GREATEST, INFINITE, MINUS, NO_NUMBERS, ONE, WRONG_LENGTHS, Numbers, check_call, model_curve, model_softened, single,
)
from tonebench.tones import soft

HALF = single(0.5)


class Soft(unittest.TestCase):
    def check(self, row, softened):
        """Both signs are bent alike."""
        check_call(self, soft, [row], [0, len(softened)] + softened)
        check_call(self, soft, [[x ^ MINUS for x in row]], [0, len(softened)] + [x ^ MINUS for x in softened])

    def test_a_row(self):
        self.check(
            [0x3F333333, 0xBE4CCCCD, 0x3F666666, 0xC0600000, 0x3DFBE76D, 0xC3E40000, 0x3A83126F, 0x40E40000,
             0xC2C83333, 0x501502F9],
            [0x3ED2D2D2, 0xBE2AAAAA, 0x3EF286BC, 0xBF471C72, 0x3DE0503E, 0xBF7F7098, 0x3A82F0E9, 0x3F607E08,
             0xBF7D77C5, 0x3F800000],
        )

    def test_exact_quotients(self):
        self.check([ONE, single(3.0), single(7.0), single(-3.0)], [HALF, single(0.75), single(0.875), single(-0.75)])

    def test_quotients_between_two_singles(self):
        # 2/3 is 0x2AAAAA.AA.. behind the point: up; 4/5 is 0x4CCCCC.CC..: up; 1/3: up; 6/7 is 0x5B6DB6.DB..: up.
        self.check(
            [single(2.0), single(4.0), HALF, single(6.0)],
            [0x3F2AAAAB, 0x3F4CCCCD, 0x3EAAAAAB, 0x3F5B6DB7],
        )
        # 10/11 is 0x68BA2E.8B..: up; 8/9 is 0x638E38.E3..: up; 12/13 is 0x6C4EC4.EC..: up; 5/6 is 0x555555.55..: down.
        self.check(
            [single(10.0), single(8.0), single(12.0), single(5.0)],
            [0x3F68BA2F, 0x3F638E39, 0x3F6C4EC5, 0x3F555555],
        )

    def test_the_quotient_is_rounded_once(self):
        # Times a rounded 1 / (1 + x), each of these would be off by one.
        self.check([0x407DD9F1, 0x3EA09DA2, 0x3EFC7D96], [0x3F4C7433, 0x3E748616, 0x3EA91989])

    def test_the_sum_is_rounded(self):
        # 1 + 2^-24 is half way to the next, and 1 is even; 1 + 3 2^-24 is half way, too, and 1 + 2^-22 is even.
        tie = single(2.0 ** -24)
        self.check([tie - 1, tie], [tie - 1, tie])
        # With x of 2^-24 (1 + 2^-23) it goes up to 1 + 2^-23, and the quotient is just 2^-24.
        self.check([tie + 1], [tie])
        # 3 2^-24 / (1 + 2^-22) is 3 2^-24 (1 - 2^-22 + ..), that is 3 2^-24 - 3 2^-46 and a little; a step is 2^-46.
        self.check([single(3 * 2.0 ** -24)], [single(3 * 2.0 ** -24) - 3])

    def test_great_numbers(self):
        # With 2^24 the sum is half way to 2^24 + 2, and 2^24 is even; with 2^24 + 2 it goes up to 2^24 + 4.
        self.check([single(2.0 ** 24 - 1), single(2.0 ** 24), single(2.0 ** 24 + 2)], [ONE - 1, ONE, ONE - 2])
        self.check([single(2.0 ** 25), GREATEST - 1, GREATEST], [ONE, ONE, ONE])

    def test_numbers_below_the_normal_ones(self):
        small = [1, 2, 3, 0x00400000, 0x007FFFFF, 0x00800000, 0x00800001]
        self.check(small, small)

    def test_zeros_keep_their_signs(self):
        self.check([0, MINUS], [0, MINUS])

    def test_infinite_by_infinite_is_no_number(self):
        check_call(self, soft, [[INFINITE, ONE, INFINITE | MINUS]], [0, 3, -1, HALF, -1])

    def test_no_number_is_told(self):
        for bits in NO_NUMBERS:
            check_call(self, soft, [[ONE, bits, ONE]], [0, 3, HALF, -1, HALF])

    def test_lengths(self):
        self.check([], [])
        self.check([ONE], [HALF])
        self.check([ONE, single(3.0)] * 2048, [HALF, single(0.75)] * 2048)
        for count in WRONG_LENGTHS:
            check_call(self, soft, [[ONE] * count], [-1])

    def test_numbers_of_all_sorts(self):
        numbers = Numbers(8)
        for _ in range(1000):
            row = numbers.singles(numbers.below(8)) + [numbers.beside_a_power()]
            self.assertEqual(model_curve(model_softened, row), soft(row), row)


if __name__ == "__main__":
    unittest.main()
