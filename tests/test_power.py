"""Promise 7: power."""

import unittest

from model import (
    DOUBLE_INFINITE, GREATEST, INFINITE, MINUS, NO_NUMBERS, ONE, WRONG_LENGTHS, Numbers, check_call, double,
    model_power, single,
)
from tonebench.tones import power

# Its square is 2^54, where the step to the next double is 4.
GREAT = single(2.0 ** 27)
SQUARE = 2.0 ** 54
TWO = single(2.0)
# The places in the order in which their sums stand side by side: two and two are put together, then four and four.
ORDER = (0, 4, 2, 6, 1, 5, 3, 7)
# The power of the first 0, 1, 2 .. 24 of the row 0x3A333333 + 0x654321 k.
BY_LENGTH = (
    0x0000000000000000, 0x3E9F5C28E3D70A40, 0x3EBE8A38D558A690, 0x3ED75A0FAF1B2134, 0x3EF26AB30CC1468D,
    0x3F0CC9CD3FD33D66, 0x3F25E5B6A9F7975A, 0x3F3FFC759C46D7EC, 0x3F570437923F203B, 0x3F71B5D92DA1219E,
    0x3F8B569F8DCDB2CF, 0x3FA49631685D8DD4, 0x3FBDBB4D2C0227EA, 0x3FD5C591C8FE720A, 0x3FF0CAD784CFDC82,
    0x4009D07539BFAE60, 0x40234A0441117C18, 0x403B8BFF4E84A04E, 0x40548F6E45D79913, 0x406FCC041DDA2FAA,
    0x4088557841F9006B, 0x40A208B9B3A7563A, 0x40B9725143983B1E, 0x40D362BE58BD13D8, 0x40EE0F2A3FEAE66C,
)


def meet_without(first, second, third):
    """Whether the sums of two places are put together before that of a third joins them."""
    for size in (2, 4, 8):
        groups = [ORDER.index(place) // size for place in (first, second, third)]
        if groups[0] == groups[1]:
            return groups[2] != groups[0]


class Power(unittest.TestCase):
    def check(self, row, value):
        check_call(self, power, [row], [0, 1, double(value)])

    def test_a_row(self):
        row = [0x3F333333, 0xBE4CCCCD, 0x3F666666, 0xC0600000, 0x3DFBE76D, 0xC3E40000, 0x3A83126F, 0x40E40000,
               0xC2C83333, 0x3C23D70A, 0xBF19999A]
        check_call(self, power, [row], [0, 1, 0x410A9D25ECA53607])

    def test_rows_of_each_length(self):
        # Powers of two, so that each sum is exact and shows which are in it.
        row = [single(2.0 ** (k % 3) * (-1.0) ** k) for k in range(40)]
        for count in range(41):
            self.check(row[:count], sum(4.0 ** (k % 3) for k in range(count)))

    def test_rows_of_each_length_where_sums_are_rounded(self):
        row = [0x3A333333 + 0x654321 * k for k in range(24)]
        for count, bits in enumerate(BY_LENGTH):
            check_call(self, power, [row[:count]], [0, 1, bits])

    def test_each_place_has_its_sum(self):
        # 2^54, then 1 four times at that very sum: each is lost. At another one they come to 4, and are not.
        for place in range(8):
            for other in range(8):
                row = [0] * 40
                row[place] = GREAT
                for turn in range(1, 5):
                    row[other + 8 * turn] = ONE
                self.check(row, SQUARE if place == other else SQUARE + 4)

    def test_how_the_sums_are_put_together(self):
        # Beside 2^54 the square 1.5625 is lost; two of these are 3.125, which isn't.
        for great in range(8):
            for first in range(8):
                for second in range(first):
                    if great in (first, second):
                        continue
                    row = [0] * 8
                    row[great] = GREAT
                    row[first] = row[second] = single(1.25)
                    self.check(row, SQUARE + 4 if meet_without(first, second, great) else SQUARE)

    def test_fma_is_rounded_once(self):
        # The square of 1 + 2^-23 has 47 digits, and so many more than the sum has room for.
        fine = ONE + 1
        self.check([fine], 1 + 2.0 ** -22 + 2.0 ** -46)
        self.check([single(2.0 ** 4)] + [0] * 7 + [fine], 257 + 2.0 ** -22)
        self.check([single(2.0 ** 3)] + [0] * 7 + [fine], 65 + 2.0 ** -22 + 2.0 ** -46)

    def test_small_and_great_numbers(self):
        self.check([1], 2.0 ** -298)
        self.check([MINUS | 3], 9 * 2.0 ** -298)
        self.check([0x00800000], 2.0 ** -252)
        greatest = 2.0 ** 128 - 2.0 ** 104
        self.check([GREATEST], greatest * greatest)
        self.check([GREATEST | MINUS] * 8, 8 * greatest * greatest)

    def test_zeros(self):
        self.check([MINUS], 0.0)
        self.check([MINUS] * 9, 0.0)
        self.check([0, MINUS, 0], 0.0)

    def test_infinities(self):
        for place in range(17):
            for bits in (INFINITE, INFINITE | MINUS):
                row = [ONE] * 17
                row[place] = bits
                check_call(self, power, [row], [0, 1, DOUBLE_INFINITE])
        check_call(self, power, [[INFINITE, INFINITE | MINUS] * 5], [0, 1, DOUBLE_INFINITE])

    def test_no_number_is_told(self):
        for bits in NO_NUMBERS:
            for place in range(17):
                row = [ONE] * 17
                row[place] = bits
                check_call(self, power, [row], [0, 1, -1])
            check_call(self, power, [[INFINITE, bits]], [0, 1, -1])

    def test_lengths(self):
        self.check([], 0.0)
        self.check([TWO], 4.0)
        self.check([TWO] * 4096, 16384.0)
        for count in WRONG_LENGTHS:
            check_call(self, power, [[ONE] * count], [-1])

    def test_numbers_of_all_sorts(self):
        numbers = Numbers(12)
        for _ in range(1500):
            row = [numbers.level() for _ in range(numbers.below(40))]
            if numbers.below(4) == 0:
                row += numbers.singles(4)
            self.assertEqual(model_power(row), power(row), row)


if __name__ == "__main__":
    unittest.main()
