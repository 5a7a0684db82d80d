"""Promise 7: sizes."""

import unittest

from model import (
    GREATEST, INFINITE, MINUS, NO_NUMBERS, ONE, WRONG_LENGTHS, Numbers, check_call, model_sizes, single,
)
from tonebench.tones import sizes

NORMAL = 0x00800000


class Sizes(unittest.TestCase):
    def check(self, row, greatest, counts):
        """Both signs measure alike."""
        expected = [0, 1, greatest, 5] + counts
        check_call(self, sizes, [row], expected)
        check_call(self, sizes, [row[::-1]], expected)
        check_call(self, sizes, [[x ^ MINUS for x in row]], expected)

    def test_a_row(self):
        self.check([0x3F333333, 0xBF666666, 0x3DFBE76D, 0, 0x3ECCCCCD], 0x3F666666, [0, 0, 0, 1, 4])

    def test_each_kind_by_itself(self):
        self.check([0x7FC00000], 0, [1, 0, 0, 0, 0])
        self.check([INFINITE], INFINITE, [0, 1, 0, 0, 0])
        self.check([1], 1, [0, 0, 1, 0, 0])
        self.check([0], 0, [0, 0, 0, 1, 0])
        self.check([ONE], ONE, [0, 0, 0, 0, 1])

    def test_all_kinds_each_another_number_of_times(self):
        row = [0x7FC00000] + [INFINITE, INFINITE | MINUS] + [1, MINUS | 2, 3]
        row += [0, MINUS] * 2 + [ONE, single(-2.0), single(3.0), single(-4.0), single(5.0)]
        self.check(row, INFINITE, [1, 2, 3, 4, 5])
        self.check(row[3:] + [0xFFC00000] * 6, single(5.0), [6, 0, 3, 4, 5])

    def test_the_least_and_the_greatest_of_each_kind(self):
        self.check([0x7F800001, 0x7FFFFFFF], 0, [2, 0, 0, 0, 0])
        self.check([INFINITE, GREATEST], INFINITE, [0, 1, 0, 0, 1])
        self.check([1, NORMAL - 1], NORMAL - 1, [0, 0, 2, 0, 0])
        self.check([NORMAL, GREATEST], GREATEST, [0, 0, 0, 0, 2])
        self.check([NORMAL, NORMAL - 1, 1, 0], NORMAL, [0, 0, 2, 1, 1])
        self.check([0, 1], 1, [0, 0, 1, 1, 0])

    def test_the_greatest_has_no_sign(self):
        self.check([single(2.0), single(-3.0), ONE], single(3.0), [0, 0, 0, 0, 3])
        self.check([MINUS, MINUS], 0, [0, 0, 0, 2, 0])
        self.check([INFINITE | MINUS, GREATEST], INFINITE, [0, 1, 0, 0, 1])

    def test_what_is_no_number_is_not_the_greatest(self):
        for bits in NO_NUMBERS:
            self.check([bits, ONE, bits], ONE, [2, 0, 0, 0, 1])
            self.check([bits, MINUS], 0, [1, 0, 0, 1, 0])
            self.check([bits] * 3, 0, [3, 0, 0, 0, 0])
        self.check(list(NO_NUMBERS), 0, [6, 0, 0, 0, 0])

    def test_lengths(self):
        self.check([], 0, [0, 0, 0, 0, 0])
        self.check([single(7.0)], single(7.0), [0, 0, 0, 0, 1])
        self.check([ONE + k for k in range(4096)], ONE + 4095, [0, 0, 0, 0, 4096])
        for count in WRONG_LENGTHS:
            check_call(self, sizes, [[ONE] * count], [-1])

    def test_numbers_of_all_sorts(self):
        numbers = Numbers(11)
        for _ in range(2000):
            row = numbers.singles(numbers.below(8)) + [numbers.beside_a_power()]
            self.assertEqual(model_sizes(row), sizes(row), row)


if __name__ == "__main__":
    unittest.main()
