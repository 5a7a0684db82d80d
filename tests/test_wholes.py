"""Promise 9: wholes."""

import unittest

from model import (
    GREATEST, INFINITE, MINUS, NO_NUMBERS, ONE, WRONG_LENGTHS, Numbers, check_call, model_wholes, single,
)
from tonebench.tones import wholes

# By value: the nearest (ties to even), below, above, towards 0.
ROUNDINGS = {
    0.0: (0, 0, 0, 0), 0.25: (0, 0, 1, 0), 0.5: (0, 0, 1, 0), 0.75: (1, 0, 1, 0), 1.0: (1, 1, 1, 1),
    1.25: (1, 1, 2, 1), 1.5: (2, 1, 2, 1), 1.75: (2, 1, 2, 1), 2.0: (2, 2, 2, 2), 2.5: (2, 2, 3, 2),
    2.625: (3, 2, 3, 2), 3.5: (4, 3, 4, 3), 100.0: (100, 100, 100, 100), 100.5: (100, 100, 101, 100),
    -0.25: (0, -1, 0, 0), -0.5: (0, -1, 0, 0), -0.75: (-1, -1, 0, 0), -1.0: (-1, -1, -1, -1),
    -1.25: (-1, -2, -1, -1), -1.5: (-2, -2, -1, -1), -1.75: (-2, -2, -1, -1), -2.0: (-2, -2, -2, -2),
    -2.5: (-2, -3, -2, -2), -2.625: (-3, -3, -2, -2), -3.5: (-4, -4, -3, -3), -100.5: (-100, -101, -100, -100),
    2.0 ** -149: (0, 0, 1, 0), -(2.0 ** -149): (0, -1, 0, 0), 1 - 2.0 ** -24: (1, 0, 1, 0),
    1 + 2.0 ** -23: (1, 1, 2, 1), 0.5 + 2.0 ** -24: (1, 0, 1, 0), 0.5 - 2.0 ** -25: (0, 0, 1, 0),
}
DOWN = INFINITE | MINUS
ENDS = (-2147483648, 2147483647)


class Wholes(unittest.TestCase):
    def check(self, row, scale, how, bits, numbers):
        check_call(self, wholes, [row, [scale], [how], [bits]], [0, len(numbers)] + numbers)

    def each_way(self, x, scale, numbers, bits=16):
        for how in range(4):
            self.check([x], scale, how, bits, [numbers[how]])

    def test_a_row(self):
        row = [0x3F333333, 0xBE4CCCCD, 0x3F666666, 0x3DFBE76D, 0xBF19999A, 0x3A83126F]
        self.check(row, single(32768.0), 0, 16, [22938, -6554, 29491, 4030, -19661, 33])
        self.check(row, single(32768.0), 1, 16, [22937, -6554, 29491, 4030, -19661, 32])
        self.check(row, single(32768.0), 2, 16, [22938, -6553, 29492, 4031, -19660, 33])
        self.check(row, single(32768.0), 3, 16, [22937, -6553, 29491, 4030, -19660, 32])

    def test_the_four_roundings(self):
        for how in range(4):
            row = [single(value) for value in ROUNDINGS]
            for bits in (8, 9, 16, 24):
                self.check(row, ONE, how, bits, [numbers[how] for numbers in ROUNDINGS.values()])

    def test_zeros(self):
        for zero in (0, MINUS):
            self.each_way(zero, ONE, (0, 0, 0, 0))
            self.each_way(zero, single(-1.0), (0, 0, 0, 0))
            self.each_way(ONE, zero, (0, 0, 0, 0))

    def test_scale(self):
        self.each_way(single(0.75), single(2.0), (2, 1, 2, 1))
        self.each_way(single(0.75), single(-2.0), (-2, -2, -1, -1))
        self.each_way(single(2.5), single(0.5), (1, 1, 2, 1))

    def test_the_product_is_rounded_before(self):
        # (1 + 2^-23) (1 - 2^-24) is a little more than 1, (1 + 2^-23) (1 - 2^-23) a little less: both are rounded to 1.
        self.each_way(ONE + 1, ONE - 1, (1, 1, 1, 1))
        self.each_way(ONE + 1, ONE - 2, (1, 1, 1, 1))
        self.each_way(ONE + 1, MINUS | (ONE - 1), (-1, -1, -1, -1))
        self.each_way(ONE + 1, MINUS | (ONE - 2), (-1, -1, -1, -1))
        # Half of these: the nearest is a tie.
        self.each_way(ONE + 1, single(0.5) - 1, (0, 0, 1, 0))
        # Too small for a number, so 0.
        self.each_way(single(2.0 ** -80), single(2.0 ** -80), (0, 0, 0, 0))
        self.each_way(single(2.0 ** -80), single(-(2.0 ** -80)), (0, 0, 0, 0))

    def test_held_within_eight_bits(self):
        self.each_way(single(126.5), ONE, (126, 126, 127, 126), 8)
        self.each_way(single(127.0), ONE, (127, 127, 127, 127), 8)
        self.each_way(single(127.5), ONE, (127, 127, 127, 127), 8)
        self.each_way(single(128.0), ONE, (127, 127, 127, 127), 8)
        self.each_way(single(-127.5), ONE, (-128, -128, -127, -127), 8)
        self.each_way(single(-128.0), ONE, (-128, -128, -128, -128), 8)
        self.each_way(single(-128.5), ONE, (-128, -128, -128, -128), 8)
        self.each_way(single(-129.0), ONE, (-128, -128, -128, -128), 8)

    def test_held_within_twenty_four_bits(self):
        self.each_way(single(8388606.5), ONE, (8388606, 8388606, 8388607, 8388606), 24)
        self.each_way(single(8388607.0), ONE, (8388607,) * 4, 24)
        self.each_way(single(8388607.5), ONE, (8388607,) * 4, 24)
        self.each_way(single(8388608.0), ONE, (8388607,) * 4, 24)
        self.each_way(single(-8388607.5), ONE, (-8388608, -8388608, -8388607, -8388607), 24)
        self.each_way(single(-8388608.0), ONE, (-8388608,) * 4, 24)
        self.each_way(single(-8388609.0), ONE, (-8388608,) * 4, 24)

    def test_held_at_both_ends_of_all_bits(self):
        for bits in range(8, 25):
            past = 2 ** (bits - 1)
            row = [single(float(number)) for number in (past - 2, past - 1, past, past + 1)]
            row += [single(float(-number)) for number in (past - 1, past, past + 1, past + 2)]
            held = [past - 2, past - 1, past - 1, past - 1, 1 - past, -past, -past, -past]
            row += [GREATEST, GREATEST | MINUS, INFINITE, DOWN]
            held += [past - 1, -past, past - 1, -past]
            for how in range(4):
                self.check(row, ONE, how, bits, held)

    def test_infinities(self):
        self.each_way(INFINITE, ONE, (32767,) * 4)
        self.each_way(DOWN, ONE, (-32768,) * 4)
        self.each_way(INFINITE, single(-1.0), (-32768,) * 4)
        self.each_way(ONE, INFINITE, (32767,) * 4)
        self.each_way(single(-2.0), INFINITE, (-32768,) * 4)
        self.each_way(GREATEST, single(2.0), (32767,) * 4)
        self.each_way(GREATEST, single(-2.0), (-32768,) * 4)

    def test_no_number_gives_zero(self):
        self.each_way(0, INFINITE, (0, 0, 0, 0))
        self.each_way(DOWN, MINUS, (0, 0, 0, 0))
        for bits in NO_NUMBERS:
            for how in range(4):
                self.check([ONE, bits, single(-3.0)], ONE, how, 8, [1, 0, -3])
                self.check([ONE, INFINITE, 0], bits, how, 24, [0, 0, 0])

    def test_refused_ways(self):
        for how in (-1, 4, 5) + ENDS:
            for row in ([], [ONE]):
                check_call(self, wholes, [row, [ONE], [how], [16]], [-1])

    def test_refused_bits(self):
        for bits in (7, 25, 0, -1, -8, -24, 32) + ENDS:
            for row in ([], [ONE]):
                check_call(self, wholes, [row, [ONE], [0], [bits]], [-1])

    def test_lengths(self):
        for how in range(4):
            self.check([], ONE, how, 8, [])
            self.check([single(5.0)], ONE, how, 24, [5])
        self.check([single(float(k)) for k in range(4096)], ONE, 0, 16, list(range(4096)))
        for count in WRONG_LENGTHS:
            check_call(self, wholes, [[ONE] * count, [ONE], [0], [16]], [-1])

    def test_numbers_of_all_sorts(self):
        numbers = Numbers(13)
        for _ in range(2000):
            row = numbers.singles(4) + [numbers.level() for _ in range(6)]
            scale = numbers.single() if numbers.below(3) else single(0.25)
            how, bits = numbers.below(4), 8 + numbers.below(17)
            expected = model_wholes(row, scale, how, bits)
            self.assertEqual(expected, wholes(row, [scale], [how], [bits]), (row, scale, how, bits))


if __name__ == "__main__":
    unittest.main()
