"""What the tests share: numbers as bits, a list that may not be changed, and the promises told a second time.

The second telling is made of fractions and of Python's own doubles, so that it has nothing in common with the
package's arithmetic.
"""

import math
import random
import struct
from fractions import Fraction

MINUS = 0x80000000
ONE = 0x3F800000
GREATEST = 0x7F7FFFFF
INFINITE = 0x7F800000
NO_NUMBERS = (0x7F800001, 0x7FC00000, 0x7FFFFFFF, 0xFF800001, 0xFFC00000, 0xFFFFFFFF)
WRONG_LENGTHS = (4097, 4098, 4200)
WRONG_COUNTS = (-1, 4097, -2147483648, 2147483647)

DOUBLE_MINUS = 0x8000000000000000
DOUBLE_ONE = 0x3FF0000000000000
DOUBLE_INFINITE = 0x7FF0000000000000
DOUBLE_NO_NUMBERS = (
    0x7FF0000000000001, 0x7FF8000000000000, 0x7FFFFFFFFFFFFFFF,
    0xFFF0000000000001, 0xFFF8000000000000, 0xFFFFFFFFFFFFFFFF,
)


def single(value):
    """The bits of a value that is a single already."""
    bits = struct.unpack("<I", struct.pack("<f", value))[0]
    if value_of(bits) != value:
        raise ValueError("not a single")
    return bits


def double(value):
    return struct.unpack("<Q", struct.pack("<d", value))[0]


def value_of(bits):
    return struct.unpack("<f", struct.pack("<I", bits))[0]


def double_value_of(bits):
    return struct.unpack("<d", struct.pack("<Q", bits))[0]


def nearest_single(exact):
    """The single nearest to a fraction other than 0: the best of a guess and its neighbours."""
    size = abs(exact)
    sign = MINUS if exact < 0 else 0
    if size >= Fraction(2) ** 128 - Fraction(2) ** 103:
        return sign | INFINITE
    guess = min(struct.unpack("<I", struct.pack("<f", min(float(size), value_of(GREATEST))))[0], GREATEST)
    near = [bits for bits in (guess - 1, guess, guess + 1) if 0 <= bits <= GREATEST]
    return sign | min(near, key=lambda bits: (abs(Fraction(value_of(bits)) - size), bits % 2))


def model_fma(x, y, z):
    """x y + z for the values of singles. A product of two is exact as a double, so zeros and infinities are right."""
    plain = x * y + z
    if not (math.isfinite(x) and math.isfinite(y) and math.isfinite(z)):
        return plain
    exact = Fraction(x) * Fraction(y) + Fraction(z)
    return plain if exact == 0 else value_of(nearest_single(exact))


def model_times(x, y):
    return model_fma(x, y, math.copysign(0.0, -1.0))


def model_told(value):
    return -1 if math.isnan(value) else struct.unpack("<I", struct.pack("<f", value))[0]


def model_turn(turning, point, n):
    a, b = [value_of(bits) for bits in turning]
    c, s = [value_of(bits) for bits in point]
    row = []
    for _ in range(n):
        row.append(model_told(s))
        c, s = model_fma(c, a, -model_times(s, b)), model_fma(c, b, model_times(s, a))
    return [0, n] + row + [2, model_told(c), model_told(s)]


def model_table(entries, step, place, n):
    step, place = double_value_of(step), double_value_of(place)
    row = []
    for _ in range(n):
        x = place * len(entries)
        above = x - math.copysign(math.floor(x), x)
        f = value_of(nearest_single(Fraction(above))) if above else above
        u = value_of(entries[math.floor(x) % len(entries)])
        w = value_of(entries[(math.floor(x) + 1) % len(entries)])
        row.append(model_told(model_fma(f, model_fma(w, 1.0, -u), u)))
        q = place + step
        place = q - (math.floor(q) if q else q)
    return [0, n] + row + [1, double(place)]


def model_heights(slopes, stage, v, n):
    rise, fall, height, end = [value_of(bits) for bits in slopes]
    v = value_of(v)
    row = []
    for _ in range(n):
        if stage == 1:
            v = model_fma(v, 1.0, rise)
            if v >= 1.0:
                v, stage = 1.0, 2
        elif stage == 2:
            v = model_fma(v, 1.0, -fall)
            if height >= v:
                v, stage = height, 3
        elif stage == 4:
            v = model_fma(v, 1.0, -end)
            if 0.0 >= v:
                v, stage = 0.0, 0
        elif stage == 0:
            v = 0.0
        row.append(model_told(v))
    return [0, n] + row + [1, model_told(v), 1, stage]


def model_filtered(factors, kept, given):
    b0, b1, b2, a1, a2 = [value_of(bits) for bits in factors]
    z1, z2 = [value_of(bits) for bits in kept]
    row = []
    for x in [value_of(bits) for bits in given]:
        y = model_fma(b0, x, z1)
        z1 = model_fma(b1, x, model_fma(-a1, y, z2))
        z2 = model_fma(-a2, y, model_times(b2, x))
        row.append(model_told(y))
    return [0, len(row)] + row + [2, model_told(z1), model_told(z2)]


def model_string(damp, string, at, n):
    held = [value_of(bits) for bits in string]
    row = []
    for _ in range(n):
        row.append(model_told(held[at]))
        total = model_fma(held[at], 1.0, held[(at + 1) % len(held)])
        held[at] = model_times(model_times(total, 0.5), value_of(damp))
        at = (at + 1) % len(held)
    return [0, n] + row + [len(held)] + [model_told(value) for value in held] + [1, at]


def model_mix(gains, n, rows):
    row = []
    for place in range(n):
        total = 0.0
        for k, gain in enumerate(gains):
            total = model_fma(value_of(gain), value_of(rows[k * n + place]), total)
        row.append(model_told(total))
    return [0, n] + row


def model_row(values):
    return [0, len(values)] + [model_told(value) for value in values]


def model_middle(pairs):
    row = []
    for left, right in zip(pairs[::2], pairs[1::2]):
        row.append(model_times(model_fma(value_of(left), 1.0, value_of(right)), 0.5))
        row.append(model_times(model_fma(value_of(left), 1.0, -value_of(right)), 0.5))
    return model_row(row)


def model_softened(x):
    if x == 0 or not math.isfinite(x):
        return x if x == 0 else math.nan
    return value_of(nearest_single(Fraction(x) / Fraction(model_fma(abs(x), 1.0, 1.0))))


def model_horner(factors, x):
    total = value_of(factors[0])
    for factor in factors[1:]:
        total = model_fma(total, x, value_of(factor))
    return total


def model_level(x):
    if not 0.0 < x < math.inf:
        return math.nan
    m, e = math.frexp(x)
    p = model_horner((0xBDA0A581, 0x3F2043A5, 0xC0050372, 0x4080EF4D, 0xC01FE505), 2.0 * m)
    return model_times(model_fma(p, 1.0, e - 1.0), value_of(0x40C0A8C1))


def model_gain(x):
    y = model_times(x, value_of(0x3E2A152D))
    if not math.isfinite(y):
        return math.nan
    k = round(Fraction(y))
    p = model_horner((0x3C1D955B, 0x3D635847, 0x3E75FDF0, 0x3F317218, 0x3F800000), value_of(single(float(y - k))))
    if abs(k) > 300:
        return 0.0 if k < 0 else math.inf
    return value_of(nearest_single(Fraction(p) * Fraction(2) ** k))


def model_curve(curve, row):
    return model_row([curve(value_of(bits)) for bits in row])


def model_sizes(row):
    values = [value_of(bits) for bits in row]
    sizes = [abs(value) for value in values if not math.isnan(value)]
    counts = [
        len(values) - len(sizes), sizes.count(math.inf), len([size for size in sizes if 0.0 < size < 2.0 ** -126]),
        sizes.count(0.0), len([size for size in sizes if 2.0 ** -126 <= size < math.inf]),
    ]
    return [0, 1, model_told(max(sizes, default=0.0)), 5] + counts


def model_power(row):
    sums = [0.0] * 8
    for place, value in enumerate([value_of(bits) for bits in row]):
        if math.isfinite(value) and math.isfinite(sums[place % 8]):
            sums[place % 8] = float(Fraction(value) ** 2 + Fraction(sums[place % 8]))
        else:
            sums[place % 8] += value * value
    even = (sums[0] + sums[4]) + (sums[2] + sums[6])
    odd = (sums[1] + sums[5]) + (sums[3] + sums[7])
    return [0, 1, -1 if math.isnan(even + odd) else double(even + odd)]


class Numbers:
    """A row of numbers of all sorts, the same at each run."""

    def __init__(self, seed):
        self.source = random.Random(seed)

    def single(self):
        pick = self.source.randrange(8)
        sign = self.source.choice((0, MINUS))
        if pick == 0:
            return self.source.choice((0, MINUS, ONE, INFINITE, INFINITE | MINUS, 0x7FC00000, 1, 0x00800000, GREATEST))
        if pick == 1:
            return self.source.getrandbits(32)
        if pick == 2:
            return sign | self.source.randrange(0x00000000, 0x01800000)
        if pick == 3:
            return sign | self.source.randrange(0x1E000000, 0x21000000)
        if pick == 4:
            return sign | self.source.randrange(0x7E000000, 0x7F800000)
        return sign | self.source.randrange(0x3C000000, 0x40800000)

    def singles(self, count):
        return [self.single() for _ in range(count)]

    def beside_a_power(self):
        """A power of two or one near it; or, at the ends, a least or a greatest number, or one past these."""
        beside = self.source.randrange(256) << 23
        return max(beside + self.source.randrange(-2, 3), 0) | self.source.choice((0, MINUS))

    def level(self):
        """A number from -1024 to 1024, so that gains are met from 0 up to past the greatest."""
        return self.source.randrange(0x40000000, 0x44800000) | self.source.choice((0, MINUS))

    def fraction_double(self):
        """A double from 0 to below 1."""
        least = self.source.choice((0, 0x3C00000000000000, 0x3FA0000000000000, DOUBLE_ONE - 4))
        return self.source.randrange(least, DOUBLE_ONE)

    def below(self, count):
        return self.source.randrange(count)


class ReadOnly(list):
    """A list that fails where it is changed, be it for a while only."""

    def refuse(self, *given, **named):
        raise AssertionError("what was handed in is changed")

    __setitem__ = __delitem__ = __iadd__ = __imul__ = refuse
    append = extend = insert = pop = remove = clear = sort = reverse = refuse


def check_call(case, call, given, expected):
    """Calls twice, with lists that may not be changed; each answer is to be expected's very numbers."""
    handed = [ReadOnly(numbers) for numbers in given]
    for _ in range(2):
        answer = call(*handed)
        case.assertIs(type(answer), list)
        case.assertEqual({int}, {type(number) for number in answer})
        case.assertEqual(expected, answer)
    case.assertEqual(given, [list(numbers) for numbers in handed])
