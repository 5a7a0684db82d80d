"""Promise 9: singles."""

import unittest

from model import (
    GREATEST, INFINITE, MINUS, NO_NUMBERS, ONE, WRONG_LENGTHS, Numbers, check_call, model_singles, single,
)
from tonebench.tones import singles

LEAST_WHOLE = -2147483648
GREATEST_WHOLE = 2147483647
DOWN = INFINITE | MINUS


class Singles(unittest.TestCase):
    def check(self, numbers, scale, row):
        check_call(self, singles, [numbers, [scale]], [0, len(row)] + row)

    def by_value(self, numbers, scale, values):
        self.check(numbers, single(scale), [single(float(value)) for value in values])

    def test_a_row(self):
        least = 2.0 ** -15
        self.by_value([0, 1, -1, 16384, 32767, -32768], least, [0, least, -least, 0.5, 1 - least, -1])
        self.check(
            [1, -2, 3, 1000, -12345, 8388607, -16777215], 0x3DCCCCCD,
            [0x3DCCCCCD, 0xBE4CCCCD, 0x3E99999A, 0x42C80000, 0xC49A5000, 0x494CCCCB, 0xC9CCCCCC],
        )

    def test_whole_numbers_that_a_single_holds(self):
        numbers = [1, 2, 3, 255, 65537, 8388609, 16777215, 16777216, 16777218, 1073741824, 2147483520]
        self.by_value(numbers, 1.0, numbers)
        self.by_value([-number for number in numbers], 1.0, [-number for number in numbers])

    def test_whole_numbers_half_way(self):
        # From 2^24 on a step is 2, from 2^25 on 4, and so on.
        numbers = [16777217, 16777219, 16777221, 33554434, 33554438, 67108868, 67108876, 2147483584]
        even = [16777216, 16777220, 16777220, 33554432, 33554440, 67108864, 67108880, 2147483648]
        self.by_value(numbers, 1.0, even)
        self.by_value([-number for number in numbers], 1.0, [-number for number in even])

    def test_whole_numbers_between(self):
        numbers = [33554433, 33554435, 33554437, 33554439, 2147483583, 2147483585]
        near = [33554432, 33554436, 33554436, 33554440, 2147483520, 2147483648]
        self.by_value(numbers, 1.0, near)
        self.by_value([-number for number in numbers], 1.0, [-number for number in near])

    def test_the_ends(self):
        self.by_value([LEAST_WHOLE, GREATEST_WHOLE], 1.0, [LEAST_WHOLE, GREATEST_WHOLE + 1])
        numbers = [LEAST_WHOLE + 1, LEAST_WHOLE + 64, LEAST_WHOLE + 65]
        self.by_value(numbers, 1.0, [LEAST_WHOLE, LEAST_WHOLE, -2147483520])
        self.by_value([LEAST_WHOLE, GREATEST_WHOLE], 2.0 ** -31, [-1, 1])

    def test_zero(self):
        self.check([0], ONE, [0])
        self.check([0], single(-1.0), [MINUS])
        self.check([0, 1, -1], 0, [0, 0, MINUS])
        self.check([0, 1, -1], MINUS, [MINUS, MINUS, 0])

    def test_the_whole_number_is_rounded_before(self):
        # 3 (2^24 + 1) would be 3 2^24 + 4.
        self.by_value([16777217, -16777217], 3.0, [50331648, -50331648])

    def test_the_product_is_rounded(self):
        # 3 (1 + 2^-23) and 3 (1 + 3 2^-23) are each half way between two singles.
        self.check([3, -3], ONE + 1, [single(3.0) + 2, single(-3.0) + 2])
        self.check([3, -3], ONE + 3, [single(3.0) + 4, single(-3.0) + 4])

    def test_small_and_great_products(self):
        self.check([1, 3, -5], 1, [1, 3, MINUS | 5])
        self.check([1, 3, -5], 0x00400000, [0x00400000, 0x00C00000, MINUS | 0x01200000])
        self.check([1, 2, -1, -2], GREATEST, [GREATEST, INFINITE, GREATEST | MINUS, DOWN])

    def test_infinite_scale(self):
        self.check([1, 0, -1, GREATEST_WHOLE, LEAST_WHOLE], INFINITE, [INFINITE, -1, DOWN, INFINITE, DOWN])
        self.check([1, 0, -1, GREATEST_WHOLE, LEAST_WHOLE], DOWN, [DOWN, -1, INFINITE, DOWN, INFINITE])

    def test_scale_that_is_no_number(self):
        for bits in NO_NUMBERS:
            self.check([0, 1, -1, LEAST_WHOLE], bits, [-1, -1, -1, -1])
            self.check([], bits, [])

    def test_lengths(self):
        self.check([], ONE, [])
        self.by_value([7], 1.0, [7])
        self.by_value(list(range(-2048, 2048)), 0.5, [k / 2 for k in range(-2048, 2048)])
        for count in WRONG_LENGTHS:
            check_call(self, singles, [[1] * count, [ONE]], [-1])

    def test_numbers_of_all_sorts(self):
        source = Numbers(14)
        for _ in range(2000):
            numbers = [source.below(2 ** 32) - 2 ** 31 >> source.below(32) for _ in range(source.below(8))]
            scale = source.single()
            self.assertEqual(model_singles(numbers, scale), singles(numbers, [scale]), (numbers, scale))


if __name__ == "__main__":
    unittest.main()
