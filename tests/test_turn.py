"""Promise 1: turn."""

import unittest

from model import (
    GREATEST, INFINITE, MINUS, NO_NUMBERS, ONE, WRONG_COUNTS, Numbers, check_call, model_turn, single,
)
from tonebench.tones import turn

STEP = 2.0 ** -12
WHOLE_TURN = [ONE, 0]


class Turn(unittest.TestCase):
    def check(self, turning, point, row, after):
        check_call(self, turn, [turning, point, [len(row)]], [0, len(row)] + row + [2] + after)

    def once(self, turning, point, after):
        """One place: what is told is the second part, which is a number here."""
        self.check(turning, point, [point[1]], after)

    def test_a_tone(self):
        self.check(
            [0x3F7490EF, 0x3E974E6D], [ONE, 0],
            [0x00000000, 0x3E974E6D, 0x3F108C69, 0x3F48881E, 0x3F6E9A1F, 0x3F7F5BD7, 0x3F794E17, 0x3F5CFB4D],
            [0xBF3CC5D9, 0x3F2CEB2A],
        )

    def test_a_tone_that_fades_and_turns_back(self):
        self.check(
            [0x3ED9B9E4, 0xBF55E3C8], [0x3E800000, 0xBF400000],
            [0xBF400000, 0xBF071EA8, 0x3E57539C, 0x3F248A81, 0x3EB94186, 0xBE83AC68, 0xBF0967AC, 0xBE6BFD8C],
            [0xBEC3FABF, 0x3E8D2D99],
        )

    def test_a_quarter_turn(self):
        # Behind the third one the point is (-0, -2): c b and s a are both -0, and so is their sum.
        two = single(2.0)
        self.check([0, ONE], [two, 0], [0, two, 0, two | MINUS, MINUS], [0, two])

    def test_no_place(self):
        self.check([ONE, ONE], [single(3.0), single(-5.0)], [], [single(3.0), single(-5.0)])

    def test_fms_is_rounded_once(self):
        # c a is 1 + 2^-11 + 2^-24: rounded by itself it would lose the last part, and leave 0.
        self.once(
            [single(1.0 + STEP), ONE], [single(1.0 + STEP), single(1.0 + 2 * STEP)],
            [single(2.0 ** -24), single(2.0 + 4 * STEP)],
        )

    def test_fma_is_rounded_once(self):
        # c b is 1 + 2^-11 + 2^-24, s a is -(1 + 2^-11).
        self.once(
            [ONE, single(1.0 + STEP)], [single(1.0 + STEP), single(-1.0 - 2 * STEP)],
            [single(2.0 + 4 * STEP), single(2.0 ** -24)],
        )

    def test_inner_product_of_the_first_part_is_rounded(self):
        # s b is 1 + 2^-11 + 2^-24, rounded 1 + 2^-11, which is c a: unrounded it would leave -2^-24.
        self.once(
            [ONE, single(1.0 + STEP)], [single(1.0 + 2 * STEP), single(1.0 + STEP)],
            [0, single(2.0 + 4 * STEP)],
        )

    def test_inner_product_of_the_second_part_is_rounded(self):
        # s a is 1 + 2^-11 + 2^-24, rounded 1 + 2^-11, and c b is -(1 + 2^-11).
        self.once(
            [single(1.0 + STEP), ONE], [single(-1.0 - 2 * STEP), single(1.0 + STEP)],
            [single(-2.0 - 4 * STEP), 0],
        )

    def test_inner_product_ties_to_even(self):
        # 3 (1 + 2^-23) is 3 + 3 2^-23, half way between 3 + 2^-22 and 3 + 2^-21: the latter is even.
        self.once([0, single(3.0)], [0, single(1.0 + 2.0 ** -23)], [single(-3.0 - 2.0 ** -21), 0])
        # 3 (1 + 3 2^-23) is 3 + 9 2^-23, half way between 3 + 4 2^-22 and 3 + 5 2^-22: the former is even.
        self.once([0, single(3.0)], [0, single(1.0 + 3 * 2.0 ** -23)], [single(-3.0 - 4 * 2.0 ** -22), 0])

    def test_sum_ties_to_even(self):
        tie = single(2.0 ** -24)
        self.once([ONE, ONE], [ONE, tie], [single(1.0 - 2.0 ** -24), ONE])
        self.once([ONE, ONE], [ONE + 1, tie], [ONE, ONE + 2])
        self.once([ONE, ONE], [ONE + 1, tie | MINUS], [ONE + 2, ONE])
        self.once([ONE, ONE], [ONE, tie + 1], [0x3F7FFFFF, ONE + 1])
        self.once([ONE, ONE], [ONE + 1, tie - 1], [ONE + 1, ONE + 1])

    def test_a_sum_that_carries_into_the_next_power(self):
        self.once([ONE, ONE], [single(2.0 - 2.0 ** -23), single(2.0 ** -24)], [0x3FFFFFFE, 0x40000000])

    def test_results_below_the_normal_numbers(self):
        least = single(2.0 ** -149)
        root = single(2.0 ** -75)
        # 2^-150 is half way to the least number, and 0 is the even one; 3 2^-150 goes up to 2.
        self.once([root, 0], [root, 0], [0, 0])
        self.once([root, 0], [single(3 * 2.0 ** -75), 0], [2, 0])
        self.once([root, 0], [root + 1, 0], [least, 0])
        self.once([root, 0], [single(-3 * 2.0 ** -75), 0], [MINUS | 2, 0])
        self.once([single(0.5), 0], [0x00800000, 0], [0x00400000, 0])
        self.once([single(0.5), 0], [0x00FFFFFF, 0], [0x00800000, 0])
        self.once([ONE, 0], [0x007FFFFF, 0x00000001], [0x007FFFFF, 0x00000001])
        self.once([ONE, ONE], [0x007FFFFF, 0x00000001], [0x007FFFFE, 0x00800000])
        self.once([ONE, ONE], [0x00800000, 0x00000001], [0x007FFFFF, 0x00800001])

    def test_a_small_result_keeps_the_sign_of_what_is_lost(self):
        tiny = single(2.0 ** -80)
        self.once([tiny, 0], [tiny | MINUS, 0], [MINUS, 0])
        self.once([0, tiny], [tiny | MINUS, 0], [MINUS, MINUS])

    def test_results_past_the_greatest(self):
        half_step = single(2.0 ** 103)
        self.once([single(2.0), 0], [GREATEST, 0], [INFINITE, 0])
        self.once([single(-2.0), 0], [GREATEST, 0], [INFINITE | MINUS, 0])
        self.once([ONE, ONE], [GREATEST, half_step], [0x7F7FFFFE, INFINITE])
        self.once([ONE, ONE], [GREATEST, half_step - 1], [GREATEST, GREATEST])

    def test_a_product_past_the_greatest_that_comes_back(self):
        # c a is 2^128, s b is 2^127: what is rounded once is a number.
        self.once(
            [single(2.0), ONE], [single(2.0 ** 127), single(2.0 ** 127)],
            [single(2.0 ** 127), INFINITE],
        )

    def test_signs_of_zeros(self):
        for a in (0, MINUS):
            for b in (0, MINUS):
                for c in (0, MINUS):
                    for s in (0, MINUS):
                        first = MINUS if (a ^ c) and not (s ^ b) else 0
                        second = MINUS if (c ^ b) and (s ^ a) else 0
                        self.once([a, b], [c, s], [first, second])

    def test_a_difference_of_equals_is_plus_zero(self):
        self.once([ONE, ONE], [single(-3.0), single(-3.0)], [0, single(-6.0)])
        self.once([ONE, ONE], [single(-3.0), single(3.0)], [single(-6.0), 0])

    def test_infinities(self):
        self.once([ONE, ONE], [INFINITE, ONE], [INFINITE, INFINITE])
        self.once([ONE, ONE], [ONE, INFINITE], [INFINITE | MINUS, INFINITE])
        self.once([ONE, ONE], [INFINITE, INFINITE], [-1, INFINITE])
        self.once([ONE, ONE], [INFINITE, INFINITE | MINUS], [INFINITE, -1])
        self.once([ONE, single(-2.0)], [INFINITE | MINUS, ONE], [INFINITE | MINUS, INFINITE])

    def test_zero_times_infinite_is_no_number(self):
        self.once([ONE, 0], [INFINITE, ONE], [INFINITE, -1])
        self.once([MINUS, ONE], [INFINITE, ONE], [-1, INFINITE])
        self.once([INFINITE, ONE], [ONE, 0], [INFINITE, -1])
        self.once([INFINITE, ONE], [0, ONE], [-1, INFINITE])

    def test_no_number_is_told_and_spreads(self):
        for bits in NO_NUMBERS:
            self.check(WHOLE_TURN, [bits, ONE], [ONE, -1], [-1, -1])
            self.check(WHOLE_TURN, [ONE, bits], [-1, -1], [-1, -1])
            self.check([bits, 0], [ONE, ONE], [ONE, -1], [-1, -1])
            self.check([ONE, bits], [ONE, ONE], [ONE, -1], [-1, -1])
            self.check([ONE, 0], [bits, ONE], [], [-1, ONE])
            self.check([ONE, 0], [ONE, bits], [], [ONE, -1])
            self.check([bits, bits], [ONE, 0], [0], [-1, -1])
            self.check([bits, bits], [ONE, 0], [], [ONE, 0])

    def test_the_most_places(self):
        self.check([ONE, 0], [ONE, single(0.5)], [single(0.5)] * 4096, [ONE, single(0.5)])
        answer = turn([0x3F7490EF, 0x3E974E6D], [ONE, 0], [4096])
        self.assertEqual(model_turn([0x3F7490EF, 0x3E974E6D], [ONE, 0], 4096), answer)

    def test_refused_counts(self):
        for n in WRONG_COUNTS:
            check_call(self, turn, [[ONE, 0], [ONE, 0], [n]], [-1])

    def test_numbers_of_all_sorts(self):
        numbers = Numbers(1)
        for _ in range(1500):
            turning, point, n = numbers.singles(2), numbers.singles(2), numbers.below(6)
            self.assertEqual(model_turn(turning, point, n), turn(turning, point, [n]), (turning, point, n))


if __name__ == "__main__":
    unittest.main()
