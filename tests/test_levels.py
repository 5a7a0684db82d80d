"""Promise 8, its first sentence: levels."""

import unittest

from model import (
    GREATEST, INFINITE, MINUS, NO_NUMBERS, ONE, WRONG_LENGTHS, Numbers, check_call, model_curve, model_level, single,
)
from tonebench.tones import levels


class Levels(unittest.TestCase):
    def check(self, row, told):
        check_call(self, levels, [row], [0, len(told)] + told)

    def test_a_row(self):
        self.check(
            [0x3F333333, 0x3E4CCCCD, 0x3F666666, 0x40600000, 0x3DFBE76D, 0x43E40000, 0x3A83126F, 0x40E40000,
             0x42C83333, 0x501502F9],
            [0xC0463F06, 0xC15FAD41, 0xBF6A4544, 0x412E1929, 0xC1919D4F, 0x4254B788, 0xC26FFFFC, 0x418871EE,
             0x42200898, 0x4347FFEA],
        )

    def test_at_below_and_above_powers_of_two(self):
        self.check([ONE, ONE - 1, ONE + 1], [0x3A349E35, 0xB9CBC27A, 0x3A35168C])
        self.check([0x40000000, 0x3FFFFFFF, 0x40000001], [0x40C0AE66, 0x40C0A592, 0x40C0AE69])
        self.check([0x3F000000, 0x3EFFFFFF, 0x3F000001], [0xC0C0A31C, 0xC0C0ABF1, 0xC0C0A318])
        self.check([0x7F000000, 0x7EFFFFFF, 0x7F000001], [0x443F277B, 0x443F2769, 0x443F277B])

    def test_numbers_below_the_normal_ones(self):
        self.check([1, 2, 3], [0xC4604465, 0xC45EC313, 0xC45DE1BA])
        self.check([0x00400000, 0x003FFFFF, 0x00400001], [0xC43F2764, 0xC43F2776, 0xC43F2764])
        self.check([0x007FFFFF, 0x00800000, 0x00800001], [0xC43DA625, 0xC43DA613, 0xC43DA613])

    def test_the_greatest_numbers(self):
        self.check([GREATEST, GREATEST - 1], [0x4440A8BB, 0x4440A8BA])

    def test_each_fma_is_rounded_once(self):
        # With the product of the first step rounded by itself the levels would be other ones; and so with the second,
        # the third and the fourth step.
        self.check([0x407ACB39, 0x3F68B1A5], [0x413DCE7C, 0xBF54379D])
        self.check([0x3EF3C10C, 0x40D69DD1], [0xC0CE454A, 0x41843D13])
        self.check([0x4001D4B0, 0x41B3EA93], [0x40C49D52, 0x41D851FF])
        self.check([0x40F03985, 0x3FAAF957], [0x418C13E9, 0x4020F4D1])

    def test_each_step_is_rounded(self):
        # With nothing rounded before p (m) is whole, and with p (m) + e left unrounded, these would be other ones.
        self.check([0x4088CE6E, 0x3EA02558], [0x4149E591, 0xC1218442])
        self.check([0x3F2F8131, 0x407FE5FA], [0xC051D328, 0x41409917])

    def test_of_others_no_number(self):
        self.check([0, MINUS, ONE, ONE | MINUS], [-1, -1, 0x3A349E35, -1])
        self.check([MINUS | 1, MINUS | 0x00800000, MINUS | GREATEST], [-1, -1, -1])
        self.check([INFINITE, INFINITE | MINUS], [-1, -1])
        for bits in NO_NUMBERS:
            self.check([bits, ONE], [-1, 0x3A349E35])

    def test_lengths(self):
        self.check([], [])
        self.check([ONE], [0x3A349E35])
        self.check([ONE, 0] * 2048, [0x3A349E35, -1] * 2048)
        for count in WRONG_LENGTHS:
            check_call(self, levels, [[ONE] * count], [-1])

    def test_every_power_of_two(self):
        row = [single(2.0 ** e) for e in range(-149, 128)]
        self.assertEqual(model_curve(model_level, row), levels(row))

    def test_numbers_of_all_sorts(self):
        numbers = Numbers(9)
        for _ in range(1000):
            row = numbers.singles(numbers.below(8)) + [numbers.beside_a_power()]
            self.assertEqual(model_curve(model_level, row), levels(row), row)


if __name__ == "__main__":
    unittest.main()
