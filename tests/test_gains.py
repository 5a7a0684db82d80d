"""Promise 8, its second sentence: gains."""

import unittest

from model import (
    GREATEST, INFINITE, MINUS, NO_NUMBERS, ONE, WRONG_LENGTHS, Numbers, check_call, model_curve, model_gain, single,
)
from tonebench.tones import gains

SIX = single(6.0)
GAIN_OF_SIX = 0x3FFF64C2


class Gains(unittest.TestCase):
    def check(self, row, told):
        check_call(self, gains, [row], [0, len(told)] + told)

    def test_a_row(self):
        self.check(
            [0xC0400000, 0x40C00000, 0xC1A00000, 0xBF000000, 0x3DCCCCCD, 0x4145851F, 0xC2700000, 0x42B40000,
             0xC2C00000, 0x3F800000],
            [0x3F353E79, 0x3FFF64C2, 0x3DCCCD18, 0x3F71ADF9, 0x3F817B70, 0x40848E62, 0x3A831270, 0x46F70D8A,
             0x3784F350, 0x3F8F9E4C],
        )

    def test_zeros_and_the_least_numbers(self):
        self.check([0, MINUS, 1, MINUS | 1, 0x00800000, MINUS | 0x00800000], [ONE] * 6)

    def test_y_half_way_between_two_whole_numbers(self):
        # y is just below, at and just above 0.5, 2.5 and 10.5, where k is the one below.
        self.check([0x4040A8C0, 0x4040A8C1, 0x4040A8C2], [0x3FB50380, 0x3FB50380, 0x3FB50788])
        self.check([0x4170D2F0, 0x4170D2F1, 0x4170D2F3], [0x40B5037F, 0x40B50380, 0x40B5078A])
        self.check([0x427CDD7C, 0x427CDD7D, 0x427CDD7F], [0x44B50379, 0x44B50380, 0x44B5078F])
        # 1.5 and 3.5, where k is the one above.
        self.check([0x41107E90, 0x41107E91, 0x41107E92], [0x4035037F, 0x40350788, 0x40350789])
        self.check([0x41A893A8, 0x41A893A9, 0x41A893AA], [0x4135037F, 0x41350788, 0x4135078A])

    def test_y_half_way_below_zero(self):
        # -0.5 and -2.5, where k is the one above; -1.5 and -11.5, where it's the one below.
        self.check([0xC040A8C0, 0xC040A8C1, 0xC040A8C2], [0x3F350788, 0x3F350788, 0x3F350380])
        self.check([0xC170D2F0, 0xC170D2F1, 0xC170D2F3], [0x3E35078A, 0x3E350788, 0x3E35037F])
        self.check([0xC1107E90, 0xC1107E91, 0xC1107E92], [0x3EB50789, 0x3EB50380, 0x3EB5037F])
        self.check([0xC28A794A, 0xC28A794B, 0xC28A794C], [0x39B5078F, 0x39B50380, 0x39B50371])

    def test_each_fma_is_rounded_once(self):
        # With the product of the first step rounded by itself the gain would be another one; and so with the second,
        # the third and the fourth step.
        self.check([0x41A9260F], [0x41368632])
        self.check([0x405D80D0, 0x411686B4], [0x3FBEAA17, 0x403D0DDE])
        self.check([0xC1D162A5, 0xC06BDC33], [0x3D493C5F, 0x3F277B98])
        self.check([0x411D914F, 0xBF933551], [0x4046E05F, 0x3F604097])

    def test_each_step_is_rounded(self):
        # With nothing rounded before p is whole, and with y left unrounded, these would be other ones.
        self.check([0x411D914F, 0xBE813F2E], [0x4046E05F, 0x3F78AAC3])
        self.check([0x423D8589, 0x41B9985E, 0x41C0A745], [0x4369E505, 0x4167411D, 0x417FFA88])

    def test_the_factor_of_the_highest_power(self):
        # With this factor's last digit another one, these would be off by one.
        self.check([0xBF0D337F, 0xBF3BC53C, 0xBF6D2E90], [0x3F703FC0, 0x3F6B450E, 0x3F661971])

    def test_gains_past_the_greatest(self):
        # y is just below and at 128.
        self.check([0x4440A8C0, 0x4440A8C1], [0x7F7FFF4F, INFINITE])
        # k is 127, then 128: 2^128 by itself would be infinite.
        self.check([0x443F2770, 0x443FE818, 0x443FE819], [0x7F000000, 0x7F350342, 0x7F3507C6])
        self.check([single(2000.0), single(1e9), GREATEST], [INFINITE, INFINITE, INFINITE])

    def test_gains_below_the_normal_numbers(self):
        # y is just above, at and just below -126; then it is -127.
        self.check([0xC43DA61E, 0xC43DA61F, 0xC43F2770], [0x00800000, 0x007FFFD4, 0x00400000])
        self.check([0xC4480000, 0xC4548000, 0xC459A000, 0xC45E8000], [0x000116C3, 0x000000E2, 0x00000015, 2])

    def test_gains_below_the_normal_numbers_are_rounded_once(self):
        # First times 2^-126 and then times what is left, these would be off by one.
        self.check([0xC440F27D, 0xC4415B1D, 0xC4441D72], [0x001C0663, 0x001737C5, 0x0006841D])

    def test_gains_down_to_zero(self):
        # One and a half times the least number and more are 2; y of -149 is the least; of -150, half way, it's 0.
        self.check([0xC45F630D, 0xC45F630E, 0xC4604471], [2, 1, 1])
        self.check([0xC461C5C1, 0xC461C5C2, 0xC4634714], [1, 0, 0])
        self.check([single(-2000.0), single(-1e9), GREATEST | MINUS], [0, 0, 0])

    def test_infinities(self):
        self.check([INFINITE, SIX, INFINITE | MINUS], [-1, GAIN_OF_SIX, -1])

    def test_no_number_is_told(self):
        for bits in NO_NUMBERS:
            self.check([SIX, bits, SIX], [GAIN_OF_SIX, -1, GAIN_OF_SIX])

    def test_lengths(self):
        self.check([], [])
        self.check([SIX], [GAIN_OF_SIX])
        self.check([SIX, 0] * 2048, [GAIN_OF_SIX, ONE] * 2048)
        for count in WRONG_LENGTHS:
            check_call(self, gains, [[SIX] * count], [-1])

    def test_numbers_of_all_sorts(self):
        numbers = Numbers(10)
        for _ in range(1000):
            row = numbers.singles(numbers.below(6)) + [numbers.beside_a_power(), numbers.level()]
            self.assertEqual(model_curve(model_gain, row), gains(row), row)


if __name__ == "__main__":
    unittest.main()
