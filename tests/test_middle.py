"""Promise 6: middle."""

import unittest

from model import (
    GREATEST, INFINITE, MINUS, NO_NUMBERS, ONE, Numbers, check_call, model_middle, single,
)
from tonebench.tones import middle

HALF = single(0.5)


class Middle(unittest.TestCase):
    def check(self, pairs, row):
        check_call(self, middle, [pairs], [0, len(row)] + row)

    def test_pairs(self):
        self.check(
            [0x3F333333, 0x3E4CCCCD, 0xBF666666, 0x3EB33333, 0x3DFBE76D, 0xBEE978D5, 0x40500000, 0xC0E40000,
             0x42C83333, 0x3C23D70A],
            [0x3EE66666, 0x3E800000, 0xBE8CCCCC, 0xBF200000, 0xBE2A7EFA, 0x3E943958, 0xBFF80000, 0x40A60000,
             0x42483852, 0x42482E14],
        )

    def test_sum_before_difference(self):
        self.check([single(7.0), single(3.0)], [single(5.0), single(2.0)])
        self.check([single(3.0), single(7.0)], [single(5.0), single(-2.0)])

    def test_no_pair(self):
        self.check([], [])

    def test_the_sum_is_rounded(self):
        # 1 + 2^-24 is half way to the next, and so is 1 + 3 2^-24 between the next two.
        tie = single(2.0 ** -24)
        self.check([ONE, tie], [HALF, single(0.5 - 2.0 ** -25)])
        self.check([ONE + 1, tie], [HALF + 2, HALF])
        self.check([ONE, tie + 1], [HALF + 1, HALF - 1])
        self.check([ONE + 1, tie | MINUS], [HALF, HALF + 2])

    def test_past_the_greatest(self):
        down = GREATEST | MINUS
        self.check([GREATEST, GREATEST], [INFINITE, 0])
        self.check([GREATEST, down], [0, INFINITE])
        self.check([down, GREATEST], [0, INFINITE | MINUS])
        self.check([down, down], [INFINITE | MINUS, 0])
        self.check([GREATEST, single(2.0 ** 103)], [INFINITE, 0x7EFFFFFE])
        self.check([GREATEST, single(2.0 ** 103) - 1], [0x7EFFFFFF, 0x7EFFFFFF])

    def test_halves_below_the_normal_numbers(self):
        # Half of 1, 3, 5 and 7 times the least number are ties.
        self.check([1, 0], [0, 0])
        self.check([2, 1], [2, 0])
        self.check([4, 1], [2, 2])
        self.check([5, 2], [4, 2])
        self.check([0, 1], [0, MINUS])
        self.check([1, 2], [2, MINUS])
        self.check([1, 4], [2, MINUS | 2])
        self.check([0x00800000, 0x00000001], [0x00400000, 0x00400000])
        self.check([0x00800000, 0x007FFFFF], [0x00800000, 0])
        self.check([0x01000000, 0x00000002], [0x00800001, 0x007FFFFF])

    def test_zeros(self):
        self.check([0, 0], [0, 0])
        self.check([0, MINUS], [0, 0])
        self.check([MINUS, 0], [0, MINUS])
        self.check([MINUS, MINUS], [MINUS, 0])
        self.check([single(-3.0), single(-3.0)], [single(-3.0), 0])
        self.check([single(-3.0), single(3.0)], [0, single(-3.0)])

    def test_infinities(self):
        down = INFINITE | MINUS
        self.check([INFINITE, INFINITE], [INFINITE, -1])
        self.check([INFINITE, down], [-1, INFINITE])
        self.check([down, INFINITE], [-1, down])
        self.check([down, down], [down, -1])
        self.check([INFINITE, ONE], [INFINITE, INFINITE])
        self.check([ONE, INFINITE], [INFINITE, down])

    def test_no_number_is_told(self):
        for bits in NO_NUMBERS:
            self.check([bits, ONE, ONE, ONE, ONE, bits], [-1, -1, ONE, 0, -1, -1])
            self.check([bits, bits], [-1, -1])

    def test_the_most_pairs(self):
        self.check([single(4.0), single(2.0)] * 2048, [single(3.0), ONE] * 2048)
        pairs = [ONE + k * 4321 for k in range(4096)]
        self.assertEqual(model_middle(pairs), middle(pairs))

    def test_refused_rows(self):
        for count in (4098, 4100, 4200):
            check_call(self, middle, [[ONE] * count], [-1])

    def test_numbers_of_all_sorts(self):
        numbers = Numbers(7)
        for _ in range(1500):
            pairs = numbers.singles(2 * numbers.below(5))
            self.assertEqual(model_middle(pairs), middle(pairs), pairs)


if __name__ == "__main__":
    unittest.main()
