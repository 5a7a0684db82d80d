"""Promise 2: table."""

import unittest

from model import (
    DOUBLE_INFINITE, DOUBLE_MINUS, DOUBLE_NO_NUMBERS, DOUBLE_ONE, GREATEST, INFINITE, MINUS, NO_NUMBERS, ONE,
    WRONG_COUNTS, Numbers, check_call, double, model_table, single,
)
from tonebench.tones import table

WAVE = [0x00000000, 0x3F737870, 0x3F167918, 0xBF167918, 0xBF737870]
LEAST_DOUBLE = 1
HALF = double(0.5)


class Table(unittest.TestCase):
    def check(self, entries, step, place, row, after):
        check_call(self, table, [entries, [step], [place], [len(row)]], [0, len(row)] + row + [1, after])

    def once(self, entries, place, told):
        """One place, and a step of 0."""
        after = 0 if place in (DOUBLE_ONE, DOUBLE_MINUS) else place
        self.check(entries, 0, place, [told], after)

    def refused(self, entries, step, place, n):
        check_call(self, table, [entries, [step], [place], [n]], [-1])

    def test_a_tone(self):
        self.check(
            WAVE, 0x3FB1EB851EB851EC, 0,
            [0x00000000, 0x3EAA6DE8, 0x3F2A6DE8, 0x3F6ED212, 0x3F4E4580, 0x3F2DB8EE, 0x3EF0C1C0, 0x3D70C1C4,
             0xBEB49150, 0xBF246C32],
            0x3FE6666666666668,
        )

    def test_a_tone_backwards(self):
        self.check(
            WAVE, 0xBFD3333333333333, 0x3FECCCCCCCCCCCCD,
            [0xBEF37870, 0xBF167918, 0x3F44F8C4, 0x26182B46, 0xBF44F8C4, 0x3F167918, 0x3EF37870, 0xBF737870,
             0x00000000, 0x3F737870],
            0x3FECCCCCCCCCCCCF,
        )

    def test_between_two_entries_and_round(self):
        entries = [single(float(k)) for k in (1, 2, 5, -3)]
        told = [single(k) for k in (1.0, 1.5, 2.0, 3.5, 5.0, 1.0, -3.0, -1.0, 1.0)]
        self.check(entries, double(0.125), 0, told, double(0.125))

    def test_no_place(self):
        for place in (0, DOUBLE_MINUS, HALF, DOUBLE_ONE):
            self.check(WAVE, HALF, place, [], place)

    def test_lengths(self):
        for length in (1, 2, 4095, 4096):
            self.check([single(0.75)] * length, double(0.25), HALF, [single(0.75)] * 3, double(0.25))
        for length in (0, 4097, 4200):
            self.refused([single(0.75)] * length, 0, 0, 0)
            self.refused([single(0.75)] * length, 0, 0, 1)

    def test_the_longest_table_is_gone_through(self):
        entries = [single(float(k)) for k in range(4096)]
        self.check(entries, double(1 / 4096), 0, entries, 0)

    def test_one_entry_is_its_own_neighbour(self):
        self.check([single(7.0)], double(0.375), 0, [single(7.0)] * 4, HALF)
        self.check([INFINITE], 0, 0, [-1], 0)

    def test_places(self):
        entries = [single(1.0), single(3.0)]
        self.once(entries, 0, single(1.0))
        self.once(entries, LEAST_DOUBLE, single(1.0))
        self.once(entries, HALF, single(3.0))
        # Just below 1 f is 1 as a single, and the next entry is the first one.
        self.once(entries, DOUBLE_ONE - 1, single(1.0))
        self.once(entries, DOUBLE_ONE, single(1.0))

    def test_places_outside(self):
        outside = (DOUBLE_ONE + 1, double(2.0), DOUBLE_INFINITE, DOUBLE_MINUS | LEAST_DOUBLE, double(-0.5),
                   double(-1.0), DOUBLE_MINUS | DOUBLE_INFINITE)
        for place in outside + DOUBLE_NO_NUMBERS:
            self.refused(WAVE, 0, place, 1)
            self.refused(WAVE, 0, place, 0)

    def test_steps(self):
        after = {
            0: HALF, DOUBLE_MINUS: HALF, LEAST_DOUBLE: HALF, DOUBLE_MINUS | LEAST_DOUBLE: HALF,
            double(0.25): double(0.75), HALF: 0, double(0.75): double(0.25),
            double(-0.25): double(0.25), double(-0.5): 0, double(-0.75): double(0.75),
            # 1.5 - 2^-53 is half way between two, the even one is 1.5; -0.5 + 2^-53 is exact.
            DOUBLE_ONE - 1: HALF, DOUBLE_MINUS | (DOUBLE_ONE - 1): HALF + 1,
        }
        for step, place in after.items():
            self.check([ONE], step, HALF, [ONE], place)

    def test_steps_outside(self):
        outside = (DOUBLE_ONE, DOUBLE_ONE + 1, double(2.0), DOUBLE_INFINITE)
        for step in outside + tuple(DOUBLE_MINUS | step for step in outside) + DOUBLE_NO_NUMBERS:
            self.refused(WAVE, step, 0, 1)
            self.refused(WAVE, step, 0, 0)

    def test_counts(self):
        self.check([ONE], 0, HALF, [ONE] * 4096, HALF)
        for n in WRONG_COUNTS:
            self.refused(WAVE, 0, 0, n)

    def test_minus_zero_as_a_place(self):
        # Floor keeps the minus, so f is +0: f (w - u) + u is 0 + -0 in the first case.
        self.once([MINUS, ONE], DOUBLE_MINUS, 0)
        self.once([MINUS, single(-1.0)], DOUBLE_MINUS, MINUS)
        self.check([ONE], DOUBLE_MINUS, DOUBLE_MINUS, [ONE], 0)
        self.check([ONE], 0, DOUBLE_MINUS, [ONE], 0)
        self.check([ONE], DOUBLE_MINUS, DOUBLE_MINUS, [], DOUBLE_MINUS)

    def test_place_times_length_is_rounded(self):
        # A third is rounded downwards; three times that is half way to 1, and 1 is the even one. An exact product
        # would stay at the first entry with f = 1, and w - u, rounded, would lose the 1.
        entries = [single(2.0 ** 30), ONE, single(2.0)]
        self.once(entries, double(1 / 3), ONE)
        # With w - u = 1 - 2^30 rounded to -2^30 the place before that tells 0.
        self.once(entries, double(1 / 3) - 1, 0)

    def test_f_is_rounded_to_a_single(self):
        # w - u is 2^25, u is -2: of f = 2^-24 + d just d 2^25 is left, where d is 0 or 2^-46 by the rounding.
        entries = [single(-2.0), single(2.0 ** 25 - 2.0)]
        self.once(entries, double(2.0 ** -25 + 2.0 ** -49), 0)
        self.once(entries, double(2.0 ** -25 + 3 * 2.0 ** -49), single(2.0 ** -21))

    def test_f_below_the_normal_singles(self):
        great = single(2.0 ** 127)
        least = single(2.0 ** -22)
        self.check([0, great], 0, double(2.0 ** -150), [least], double(2.0 ** -150))
        self.check([0, great], 0, double(2.0 ** -151), [0], double(2.0 ** -151))
        self.check([0, great], 0, double(3 * 2.0 ** -151), [least + 0x00800000], double(3 * 2.0 ** -151))
        self.check([0, great], 0, LEAST_DOUBLE, [0], LEAST_DOUBLE)

    def test_out_is_rounded_once(self):
        # f (w - u) is (1 + 2^-12)^2 / 2 = 0.5 + 2^-12 + 2^-25: rounded by itself it would lose the last part.
        entries = [single(-0.5 - 2.0 ** -12), single(0.5)]
        self.once(entries, double(0.25 + 2.0 ** -14), single(2.0 ** -25))

    def test_difference_of_entries_is_rounded(self):
        # w - u is 1 + 2^-24, half way between 1 and the next one.
        self.once([single(-(2.0 ** -24)), ONE], double(0.25), single(0.5 - 2.0 ** -24))
        self.once([single(-(2.0 ** 103)), GREATEST], double(0.25), INFINITE)
        self.once([single(-(2.0 ** 101)), GREATEST], double(0.25), single(2.0 ** 127 - 2.0 ** 103))

    def test_place_plus_step_is_rounded(self):
        # 0.5 + 2^-54 is half way between two, and 0.5 is even; from the next one it goes up.
        self.check([ONE], double(2.0 ** -54), HALF, [ONE], HALF)
        self.check([ONE], double(2.0 ** -54), HALF + 1, [ONE], HALF + 2)

    def test_a_step_just_below_zero_leads_to_one(self):
        self.check([ONE, single(2.0)], double(-(2.0 ** -60)), 0, [ONE], DOUBLE_ONE)
        self.check([ONE, single(2.0)], DOUBLE_MINUS | LEAST_DOUBLE, 0, [ONE], DOUBLE_ONE)
        # At 1 the first entry is told; 1 - 2^-60 is 1 once more, and 1 - floor 1 is 0.
        self.check([ONE, single(2.0)], double(-(2.0 ** -60)), 0, [ONE, ONE], 0)
        self.check([ONE, single(2.0)], double(-(2.0 ** -60)), 0, [ONE] * 3, DOUBLE_ONE)
        self.check([ONE], double(-(2.0 ** -53)), 0, [ONE], DOUBLE_ONE - 1)
        self.check([ONE], double(-(2.0 ** -54)), 0, [ONE], DOUBLE_ONE)

    def test_from_one_onwards(self):
        self.check([ONE], 0, DOUBLE_ONE, [ONE], 0)
        self.check([ONE], HALF, DOUBLE_ONE, [ONE], HALF)
        self.check([ONE], double(-0.25), DOUBLE_ONE, [ONE], double(0.75))
        # 2 - 2^-53 is half way between two, and 2 is even.
        self.check([ONE], DOUBLE_ONE - 1, DOUBLE_ONE, [ONE], 0)

    def test_small_places_are_not_flushed(self):
        self.check([ONE], LEAST_DOUBLE, LEAST_DOUBLE, [ONE] * 3, 4 * LEAST_DOUBLE)

    def test_infinities(self):
        minus = INFINITE | MINUS
        self.once([INFINITE, ONE], double(0.25), -1)
        self.once([ONE, INFINITE], double(0.25), INFINITE)
        self.once([ONE, minus], double(0.25), minus)
        self.once([ONE, INFINITE], 0, -1)
        self.once([INFINITE, INFINITE], double(0.25), -1)
        self.once([GREATEST | MINUS, GREATEST], double(0.25), INFINITE)

    def test_signs_of_zeros(self):
        self.once([0, MINUS], 0, 0)
        self.once([MINUS, 0], 0, 0)
        self.once([MINUS, MINUS], 0, 0)
        self.once([0, 0], double(0.25), 0)
        self.once([MINUS, single(-1.0)], 0, MINUS)

    def test_no_number_is_told(self):
        for bits in NO_NUMBERS:
            self.check([ONE, bits, ONE, ONE], double(0.25), 0, [-1, -1, ONE, ONE, -1], double(0.25))
            self.check([bits], 0, 0, [-1], 0)
            self.check([bits], 0, 0, [], 0)

    def test_numbers_of_all_sorts(self):
        numbers = Numbers(2)
        for _ in range(1500):
            entries, n = numbers.singles(1 + numbers.below(7)), numbers.below(6)
            place = numbers.fraction_double()
            step = numbers.fraction_double() | numbers.below(2) * DOUBLE_MINUS
            expected = model_table(entries, step, place, n)
            self.assertEqual(expected, table(entries, [step], [place], [n]), (entries, step, place, n))


if __name__ == "__main__":
    unittest.main()
