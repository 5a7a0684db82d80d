"""Promise 6, its first sentence: mix."""

import unittest

from model import (
    GREATEST, INFINITE, MINUS, NO_NUMBERS, ONE, WRONG_COUNTS, Numbers, check_call, model_mix, single,
)
from tonebench.tones import mix

STEP = 2.0 ** -12


class Mix(unittest.TestCase):
    def check(self, gains, rows, row):
        check_call(self, mix, [gains, [len(row)], rows], [0, len(row)] + row)

    def once(self, gains, rows, told):
        """One place, by values."""
        self.check([single(gain) for gain in gains], [single(x) for x in rows], [single(told)])

    def test_three_rows(self):
        self.check(
            [0x3F333333, 0xBEB33333, 0x3F99999A],
            [0x3DCCCCCD, 0x3E4CCCCD, 0x3E99999A, 0x3ECCCCCD, 0x3F000000,
             0x3F666666, 0xBF4CCCCD, 0x3F333333, 0xBF19999A, 0x3F0CCCCD,
             0xBC23D70A, 0x3CA3D70A, 0x3EA8F5C3, 0xBEE147AE, 0x3DFBE76D],
            [0xBE839581, 0x3EE353F7, 0x3EB8D500, 0xBD1BA5E6, 0x3E9C3611],
        )

    def test_each_row_has_its_gain(self):
        # 2 * 3 + 5 * 7 and 2 * 11 + 5 * 13.
        self.check(
            [single(2.0), single(5.0)], [single(3.0), single(11.0), single(7.0), single(13.0)],
            [single(41.0), single(87.0)],
        )

    def test_no_rows(self):
        for n in (0, 1, 3, 4096):
            self.check([], [], [0] * n)

    def test_no_places(self):
        for count in (0, 1, 2, 32):
            self.check([ONE] * count, [], [])

    def test_one_row(self):
        self.check([single(2.0)], [ONE, single(-3.0), 1], [single(2.0), single(-6.0), 2])

    def test_row_after_row(self):
        # From the first on both small ones are lost at ties; together they would be one step.
        tie = 2.0 ** -24
        self.once([1.0, 1.0, 1.0], [1.0, tie, tie], 1.0)
        self.once([1.0, 1.0, 1.0], [tie, tie, 1.0], 1 + 2 * tie)
        self.once([1.0, 1.0, 1.0], [tie, 1.0, tie], 1.0)

    def test_the_sum_goes_from_zero_on(self):
        self.check([ONE], [MINUS, 0], [0, 0])
        self.check([single(-1.0)], [MINUS, 0], [0, 0])
        self.check([ONE, ONE], [MINUS, MINUS], [0])
        # A small product below 0 is -0, and so is its sum with 0, as it isn't just 0.
        self.check([single(2.0 ** -80)], [single(-2.0 ** -80)], [MINUS])

    def test_each_sum_is_rounded_once(self):
        # The product is 1 + 2^-11 + 2^-24: rounded by itself it would lose the last part, and leave 0.
        self.once([1.0, 1 + STEP], [-1 - 2 * STEP, 1 + STEP], 2.0 ** -24)
        # The sum before it is rounded: 1 + 2^-11 alone stays.
        self.once([1 + STEP, 1.0], [1 + STEP, -1 - 2 * STEP], 0.0)

    def test_ties_to_even(self):
        tie = 2.0 ** -24
        self.once([1.0, 1.0], [1.0, tie], 1.0)
        self.once([1.0, 1.0], [1 + 2 * tie, tie], 1 + 4 * tie)
        self.once([1.0, -1.0], [1 + 2 * tie, tie], 1.0)

    def test_numbers_below_the_normal_ones(self):
        root = 2.0 ** -75
        least = 2.0 ** -149
        self.once([root], [root], 0.0)
        self.once([root], [3 * root], 2 * least)
        self.once([root, 1.0], [root, least], least)
        self.once([1.0, root], [least, root], 2 * least)
        self.once([1.0, -1.0], [2.0 ** -126, least], 2.0 ** -126 - least)

    def test_results_past_the_greatest(self):
        self.check([single(2.0)], [GREATEST, GREATEST | MINUS], [INFINITE, INFINITE | MINUS])
        self.check([single(2.0), single(-2.0)], [GREATEST, GREATEST], [INFINITE])
        self.once([-1.0, 2.0], [2.0 ** 127, 2.0 ** 127], 2.0 ** 127)

    def test_infinities(self):
        self.check([ONE, ONE], [INFINITE, INFINITE, ONE, INFINITE | MINUS], [INFINITE, -1])
        self.check([INFINITE], [ONE, single(-1.0), 0, MINUS], [INFINITE, INFINITE | MINUS, -1, -1])
        self.check([0], [INFINITE, ONE], [-1, 0])

    def test_no_number_is_told(self):
        for bits in NO_NUMBERS:
            self.check([bits], [ONE, 0, INFINITE], [-1, -1, -1])
            self.check([ONE, ONE], [ONE, bits, bits, ONE], [-1, -1])
            self.check([ONE, ONE], [ONE, bits, ONE, ONE], [single(2.0), -1])
            self.check([ONE, bits, ONE], [ONE, ONE, ONE], [-1])

    def test_counts_of_rows(self):
        self.check([ONE] * 32, [ONE] * 64, [single(32.0)] * 2)
        gains = [single(float(k + 1)) for k in range(32)]
        self.check(gains, [ONE] * 32, [single(528.0)])
        for count in (33, 34, 64):
            for n in (0, 1, 3):
                check_call(self, mix, [[ONE] * count, [n], [ONE] * (count * n)], [-1])

    def test_refused_counts_of_places(self):
        for n in WRONG_COUNTS:
            check_call(self, mix, [[], [n], []], [-1])

    def test_the_most_places(self):
        self.check([ONE], list(range(4096)), list(range(4096)))
        rows = [ONE + k * 77 for k in range(7 * 4096)]
        gains = [ONE + k * 12345 for k in range(7)]
        check_call(self, mix, [gains, [4096], rows], model_mix(gains, 4096, rows))

    def test_numbers_of_all_sorts(self):
        numbers = Numbers(6)
        for _ in range(1500):
            gains, n = numbers.singles(numbers.below(5)), numbers.below(4)
            rows = numbers.singles(len(gains) * n)
            self.assertEqual(model_mix(gains, n, rows), mix(gains, [n], rows), (gains, n, rows))


if __name__ == "__main__":
    unittest.main()
