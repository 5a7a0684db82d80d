"""Promise 3: heights."""

import unittest

from model import (
    GREATEST, INFINITE, MINUS, NO_NUMBERS, ONE, WRONG_COUNTS, Numbers, check_call, model_heights, single,
)
from tonebench.tones import heights

SLOPES = [0x3E99999A, 0x3E19999A, 0x3F19999A, 0x3E4CCCCD]
HALF = single(0.5)
QUARTER = single(0.25)
BELOW_ONE = ONE - 1


class Heights(unittest.TestCase):
    def check(self, slopes, stage, v, row, after):
        """After is the stage behind the row; v behind it is what was told last."""
        last = row[-1] if row else v
        check_call(self, heights, [slopes, [stage], [v], [len(row)]], [0, len(row)] + row + [1, last, 1, after])

    def rise(self, v, rise, told, after):
        self.check([rise, HALF, QUARTER, HALF], 1, v, [told], after)

    def fall(self, v, fall, height, told, after):
        self.check([HALF, fall, height, HALF], 2, v, [told], after)

    def end(self, v, end, told, after):
        self.check([HALF, HALF, QUARTER, end], 4, v, [told], after)

    def test_an_envelope(self):
        self.check(
            SLOPES, 1, 0x3DCCCCCD,
            [0x3ECCCCCD, 0x3F333334, 0x3F800000, 0x3F59999A, 0x3F333334, 0x3F19999A, 0x3F19999A, 0x3F19999A],
            3,
        )

    def test_its_end(self):
        self.check(SLOPES, 4, 0x3F333333, [0x3F000000, 0x3E99999A, 0x3DCCCCCE, 0, 0, 0], 0)

    def test_its_fall(self):
        self.check(SLOPES, 2, 0x3F666666, [0x3F400000, 0x3F19999A, 0x3F19999A], 3)

    def test_one_stage_at_each_place(self):
        self.check([single(2.0), single(2.0), HALF, single(2.0)], 1, 0, [ONE, HALF, HALF], 3)

    def test_stage_three_stays(self):
        for v in (0, MINUS, ONE, single(-7.5), 1, GREATEST, INFINITE, INFINITE | MINUS):
            self.check(SLOPES, 3, v, [v] * 3, 3)

    def test_stage_zero_is_zero(self):
        for v in (0, MINUS, ONE, single(-7.5), 1, GREATEST, INFINITE, INFINITE | MINUS) + NO_NUMBERS:
            self.check(SLOPES, 0, v, [0, 0], 0)

    def test_no_place(self):
        for stage in range(5):
            for v in (0, MINUS, single(5.0), INFINITE):
                self.check(SLOPES, stage, v, [], stage)
            for bits in NO_NUMBERS:
                check_call(self, heights, [SLOPES, [stage], [bits], [0]], [0, 0, 1, -1, 1, stage])

    def test_refused_stages(self):
        for stage in (-1, 5, -2147483648, 2147483647):
            for n in (0, 1):
                check_call(self, heights, [SLOPES, [stage], [0], [n]], [-1])

    def test_counts(self):
        self.check([0, 0, 0, 0], 1, HALF, [HALF] * 4096, 1)
        for n in WRONG_COUNTS:
            for stage in range(5):
                check_call(self, heights, [SLOPES, [stage], [0], [n]], [-1])

    def test_a_long_rise(self):
        slopes = [single(2.0 ** -12) + 1, single(2.0 ** -12) - 1, 0, 0]
        self.assertEqual(model_heights(slopes, 1, 0, 4096), heights(slopes, [1], [0], [4096]))

    def test_the_edge_of_the_rise(self):
        self.rise(HALF, HALF, ONE, 2)
        self.rise(HALF, HALF - 2, BELOW_ONE, 1)
        self.rise(BELOW_ONE, 0, BELOW_ONE, 1)
        self.rise(ONE, 0, ONE, 2)
        self.rise(ONE + 1, 0, ONE, 2)
        self.rise(single(9.0), single(-1.0), ONE, 2)
        self.rise(single(-1.0), 0, single(-1.0), 1)
        self.rise(ONE, single(-0.5), HALF, 1)

    def test_the_rise_is_rounded_before_it_is_compared(self):
        # 1 - 2^-24 + 2^-25 is half way to 1, and 1 is the even one.
        self.rise(BELOW_ONE, single(2.0 ** -25), ONE, 2)
        self.rise(BELOW_ONE, single(2.0 ** -25) - 1, BELOW_ONE, 1)

    def test_infinite_rises(self):
        self.rise(0, INFINITE, ONE, 2)
        self.rise(0, INFINITE | MINUS, INFINITE | MINUS, 1)
        self.rise(GREATEST, GREATEST, ONE, 2)
        self.rise(GREATEST | MINUS, GREATEST | MINUS, INFINITE | MINUS, 1)

    def test_the_edge_of_the_fall(self):
        self.fall(ONE, HALF, HALF, HALF, 3)
        self.fall(ONE, HALF, HALF - 1, HALF, 2)
        self.fall(ONE, HALF, HALF + 1, HALF + 1, 3)
        self.fall(ONE, single(2.0), single(-1.0), single(-1.0), 3)
        self.fall(ONE, single(2.0), single(-1.0) + 1, single(-1.0), 2)
        self.fall(ONE, single(2.0), single(-1.0) - 1, single(-1.0) - 1, 3)

    def test_the_fall_is_rounded_before_it_is_compared(self):
        # 1 - 2^-25 is half way between 1 - 2^-24 and 1, and 1 is the even one.
        self.fall(ONE, single(2.0 ** -25), BELOW_ONE, ONE, 2)
        self.fall(ONE, single(2.0 ** -25) + 1, BELOW_ONE, BELOW_ONE, 3)

    def test_the_height_itself_is_told(self):
        self.fall(HALF, HALF, MINUS, MINUS, 3)
        self.fall(MINUS, 0, 0, 0, 3)
        self.fall(HALF, ONE, single(3.0), single(3.0), 3)

    def test_infinite_falls(self):
        self.fall(0, INFINITE, QUARTER, QUARTER, 3)
        self.fall(0, INFINITE | MINUS, QUARTER, INFINITE, 2)
        self.fall(0, INFINITE | MINUS, INFINITE, INFINITE, 3)
        self.fall(0, INFINITE, INFINITE | MINUS, INFINITE | MINUS, 3)

    def test_the_edge_of_the_end(self):
        self.end(HALF, HALF, 0, 0)
        self.end(HALF, HALF - 1, single(2.0 ** -25), 4)
        self.end(HALF, HALF + 1, 0, 0)
        self.end(MINUS, 0, 0, 0)
        self.end(0, 0, 0, 0)
        self.end(1, 0, 1, 4)
        self.end(1 | MINUS, 0, 0, 0)
        self.end(2, 1, 1, 4)
        self.end(1, 1, 0, 0)
        self.end(single(-1.0), single(-2.0), ONE, 4)

    def test_small_numbers_are_not_flushed(self):
        self.end(0x00800000, 0x00000001, 0x007FFFFF, 4)
        self.rise(0x007FFFFF, 0x00000001, 0x00800000, 1)
        self.fall(0x00800001, 0x00800000, 0, 0x00000001, 2)

    def test_infinite_ends(self):
        self.end(ONE, INFINITE, 0, 0)
        self.end(ONE, INFINITE | MINUS, INFINITE, 4)
        self.end(INFINITE, GREATEST, INFINITE, 4)
        self.end(INFINITE | MINUS, 0, 0, 0)

    def test_rise_of_zeros(self):
        self.rise(MINUS, MINUS, MINUS, 1)
        self.rise(MINUS, 0, 0, 1)
        self.rise(0, MINUS, 0, 1)
        self.rise(single(-0.5), HALF, 0, 1)

    def test_fall_of_zeros(self):
        low = single(-1.0)
        self.fall(MINUS, 0, low, MINUS, 2)
        self.fall(MINUS, MINUS, low, 0, 2)
        self.fall(0, 0, low, 0, 2)
        self.fall(HALF, HALF, low, 0, 2)

    def test_infinities_that_cancel_are_no_number(self):
        self.check([INFINITE | MINUS, 0, 0, 0], 1, INFINITE, [-1, -1], 1)
        self.check([0, INFINITE, 0, 0], 2, INFINITE, [-1, -1], 2)
        self.check([0, 0, 0, INFINITE], 4, INFINITE, [-1, -1], 4)

    def test_no_number_changes_no_stage(self):
        for bits in NO_NUMBERS:
            for stage in (1, 2, 3, 4):
                self.check(SLOPES, stage, bits, [-1, -1], stage)
            self.check([bits, HALF, HALF, HALF], 1, ONE, [-1, -1], 1)
            self.check([HALF, bits, HALF, HALF], 2, ONE, [-1, -1], 2)
            self.check([HALF, HALF, HALF, bits], 4, ONE, [-1, -1], 4)

    def test_a_height_that_is_no_number_is_never_reached(self):
        for bits in NO_NUMBERS:
            self.check([HALF, HALF, bits, HALF], 2, ONE, [HALF, 0, single(-0.5)], 2)

    def test_slopes_of_other_stages_do_not_matter(self):
        for bits in NO_NUMBERS:
            self.check([HALF, bits, bits, bits], 1, 0, [HALF, ONE], 2)
            self.check([bits, HALF, 0, bits], 2, ONE, [HALF, 0, 0], 3)
            self.check([bits, bits, bits, HALF], 4, ONE, [HALF, 0, 0], 0)
            self.check([bits] * 4, 3, ONE, [ONE], 3)

    def test_numbers_of_all_sorts(self):
        numbers = Numbers(3)
        for _ in range(2000):
            slopes, stage, v, n = numbers.singles(4), numbers.below(5), numbers.single(), numbers.below(6)
            expected = model_heights(slopes, stage, v, n)
            self.assertEqual(expected, heights(slopes, [stage], [v], [n]), (slopes, stage, v, n))


if __name__ == "__main__":
    unittest.main()
