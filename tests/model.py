"""What the tests share: numbers as bits, a list that may not be changed, and the promises told a second time.

The second telling is made of fractions and of Python's own doubles, so that it has nothing in common with the
package's arithmetic.
"""

import math
import random
import struct
from fractions import Fraction

MINUS = 0x80000000
ONE = 0x3F800000
GREATEST = 0x7F7FFFFF
INFINITE = 0x7F800000
NO_NUMBERS = (0x7F800001, 0x7FC00000, 0x7FFFFFFF, 0xFF800001, 0xFFC00000, 0xFFFFFFFF)
WRONG_LENGTHS = (4097, 4098, 4200)
WRONG_COUNTS = (-1, 4097, -2147483648, 2147483647)

DOUBLE_MINUS = 0x8000000000000000
DOUBLE_ONE = 0x3FF0000000000000
DOUBLE_INFINITE = 0x7FF0000000000000
DOUBLE_NO_NUMBERS = (
    0x7FF0000000000001, 0x7FF8000000000000, 0x7FFFFFFFFFFFFFFF,
    0xFFF0000000000001, 0xFFF8000000000000, 0xFFFFFFFFFFFFFFFF,
)


def single(value):
    """The bits of a value that is a single already."""
    bits = struct.unpack("<I", struct.pack("<f", value))[0]
    if value_of(bits) != value:
        raise ValueError("not a single")
    return bits


def double(value):
    return struct.unpack("<Q", struct.pack("<d", value))[0]


def value_of(bits):
    return struct.unpack("<f", struct.pack("<I", bits))[0]


def values_of(row):
    return [value_of(bits) for bits in row]


def double_value_of(bits):
    return struct.unpack("<d", struct.pack("<Q", bits))[0]


def nearest_single(exact):
    """The single nearest to a fraction other than 0: the best of a guess and its neighbours."""
    size = abs(exact)
    sign = MINUS if exact < 0 else 0
    if size >= Fraction(2) ** 128 - Fraction(2) ** 103:
        return sign | INFINITE
    guess = min(struct.unpack("<I", struct.pack("<f", min(float(size), value_of(GREATEST))))[0], GREATEST)
    near = [bits for bits in (guess - 1, guess, guess + 1) if 0 <= bits <= GREATEST]
    return sign | min(near, key=lambda bits: (abs(Fraction(value_of(bits)) - size), bits % 2))


def model_fma(x, y, z):
    """x y + z for the values of singles. A product of two is exact as a double, so zeros and infinities are right."""
    plain = x * y + z
    if not (math.isfinite(x) and math.isfinite(y) and math.isfinite(z)):
        return plain
    exact = Fraction(x) * Fraction(y) + Fraction(z)
    return plain if exact == 0 else value_of(nearest_single(exact))


def model_times(x, y):
    return model_fma(x, y, math.copysign(0.0, -1.0))


def model_told(value):
    return -1 if math.isnan(value) else struct.unpack("<I", struct.pack("<f", value))[0]


def model_turned(turning, c, s):
    a, b = turning
    return model_fma(c, a, -model_times(s, b)), model_fma(c, b, model_times(s, a))


def model_turn(turning, point, n):
    turning, (c, s) = values_of(turning), values_of(point)
    row = []
    for _ in range(n):
        row.append(model_told(s))
        c, s = model_turned(turning, c, s)
    return [0, n] + row + [2, model_told(c), model_told(s)]


def model_table(entries, step, place, n):
    step, place = double_value_of(step), double_value_of(place)
    row = []
    for _ in range(n):
        x = place * len(entries)
        above = x - math.copysign(math.floor(x), x)
        f = value_of(nearest_single(Fraction(above))) if above else above
        u = value_of(entries[math.floor(x) % len(entries)])
        w = value_of(entries[(math.floor(x) + 1) % len(entries)])
        row.append(model_told(model_fma(f, model_fma(w, 1.0, -u), u)))
        q = place + step
        place = q - (math.floor(q) if q else q)
    return [0, n] + row + [1, double(place)]


def model_height(slopes, stage, v):
    rise, fall, height, end = slopes
    if stage == 1:
        v = model_fma(v, 1.0, rise)
        return (1.0, 2) if v >= 1.0 else (v, 1)
    if stage == 2:
        v = model_fma(v, 1.0, -fall)
        return (height, 3) if height >= v else (v, 2)
    if stage == 4:
        v = model_fma(v, 1.0, -end)
        return (0.0, 0) if 0.0 >= v else (v, 4)
    return (v, 3) if stage == 3 else (0.0, 0)


def model_heights(slopes, stage, v, n):
    slopes, v = values_of(slopes), value_of(v)
    row = []
    for _ in range(n):
        v, stage = model_height(slopes, stage, v)
        row.append(model_told(v))
    return [0, n] + row + [1, model_told(v), 1, stage]


def model_pass(factors, z1, z2, x):
    b0, b1, b2, a1, a2 = factors
    y = model_fma(b0, x, z1)
    return y, model_fma(b1, x, model_fma(-a1, y, z2)), model_fma(-a2, y, model_times(b2, x))


def model_filtered(factors, kept, given):
    factors, (z1, z2) = values_of(factors), values_of(kept)
    row = []
    for x in values_of(given):
        y, z1, z2 = model_pass(factors, z1, z2, x)
        row.append(model_told(y))
    return [0, len(row)] + row + [2, model_told(z1), model_told(z2)]


def model_string(damp, string, at, n):
    held = values_of(string)
    row = []
    for _ in range(n):
        row.append(model_told(held[at]))
        total = model_fma(held[at], 1.0, held[(at + 1) % len(held)])
        held[at] = model_times(model_times(total, 0.5), value_of(damp))
        at = (at + 1) % len(held)
    return [0, n] + row + [len(held)] + [model_told(value) for value in held] + [1, at]


def model_mix(gains, n, rows):
    row = []
    for place in range(n):
        total = 0.0
        for k, gain in enumerate(gains):
            total = model_fma(value_of(gain), value_of(rows[k * n + place]), total)
        row.append(model_told(total))
    return [0, n] + row


def model_row(values):
    return [0, len(values)] + [model_told(value) for value in values]


def model_middle(pairs):
    row = []
    for left, right in zip(pairs[::2], pairs[1::2]):
        row.append(model_times(model_fma(value_of(left), 1.0, value_of(right)), 0.5))
        row.append(model_times(model_fma(value_of(left), 1.0, -value_of(right)), 0.5))
    return model_row(row)


def model_softened(x):
    if x == 0 or not math.isfinite(x):
        return x if x == 0 else math.nan
    return value_of(nearest_single(Fraction(x) / Fraction(model_fma(abs(x), 1.0, 1.0))))


def model_horner(factors, x):
    total = value_of(factors[0])
    for factor in factors[1:]:
        total = model_fma(total, x, value_of(factor))
    return total


def model_level(x):
    if not 0.0 < x < math.inf:
        return math.nan
    m, e = math.frexp(x)
    p = model_horner((0xBDA0A581, 0x3F2043A5, 0xC0050372, 0x4080EF4D, 0xC01FE505), 2.0 * m)
    return model_times(model_fma(p, 1.0, e - 1.0), value_of(0x40C0A8C1))


def model_gain(x):
    y = model_times(x, value_of(0x3E2A152D))
    if not math.isfinite(y):
        return math.nan
    k = round(Fraction(y))
    p = model_horner((0x3C1D955B, 0x3D635847, 0x3E75FDF0, 0x3F317218, 0x3F800000), value_of(single(float(y - k))))
    if abs(k) > 300:
        return 0.0 if k < 0 else math.inf
    return value_of(nearest_single(Fraction(p) * Fraction(2) ** k))


def model_curve(curve, row):
    return model_row([curve(value) for value in values_of(row)])


def model_sizes(row):
    values = values_of(row)
    sizes = [abs(value) for value in values if not math.isnan(value)]
    counts = [
        len(values) - len(sizes), sizes.count(math.inf), len([size for size in sizes if 0.0 < size < 2.0 ** -126]),
        sizes.count(0.0), len([size for size in sizes if 2.0 ** -126 <= size < math.inf]),
    ]
    return [0, 1, model_told(max(sizes, default=0.0)), 5] + counts


def model_power(row):
    sums = [0.0] * 8
    for place, value in enumerate(values_of(row)):
        if math.isfinite(value) and math.isfinite(sums[place % 8]):
            sums[place % 8] = float(Fraction(value) ** 2 + Fraction(sums[place % 8]))
        else:
            sums[place % 8] += value * value
    even = (sums[0] + sums[4]) + (sums[2] + sums[6])
    odd = (sums[1] + sums[5]) + (sums[3] + sums[7])
    return [0, 1, -1 if math.isnan(even + odd) else double(even + odd)]


def model_whole(how, bits, product):
    least, most = -2 ** (bits - 1), 2 ** (bits - 1) - 1
    if math.isnan(product):
        return 0
    if math.isinf(product):
        return most if product > 0 else least
    exact = Fraction(product)
    return max(least, min((round(exact), math.floor(exact), math.ceil(exact), math.trunc(exact))[how], most))


def model_wholes(row, scale, how, bits):
    products = [model_times(value, value_of(scale)) for value in values_of(row)]
    return [0, len(row)] + [model_whole(how, bits, product) for product in products]


def model_singles(numbers, scale):
    values = [value_of(nearest_single(Fraction(number))) if number else 0.0 for number in numbers]
    return model_row([model_times(value, value_of(scale)) for value in values])


class ModelVoice:
    def __init__(self, numbers):
        self.numbers = values_of(numbers)
        self.stage, self.v, self.point, self.kept = 0, 0.0, (1.0, 0.0), (0.0, 0.0)

    def on(self):
        self.stage, self.v, self.point, self.kept = 1, 0.0, (1.0, 0.0), (0.0, 0.0)

    def off(self):
        self.stage = 4 if self.stage else 0

    def sound(self):
        self.v, self.stage = model_height(self.numbers[2:6], self.stage, self.v)
        y, *self.kept = model_pass(self.numbers[6:11], *self.kept, model_times(self.point[1], self.v))
        self.point = model_turned(self.numbers[:2], *self.point)
        return y


def model_played(voices, n):
    row = []
    for _ in range(n):
        left = right = 0.0
        for voice in voices:
            if voice.stage:
                y = voice.sound()
                left = model_fma(y, voice.numbers[11], left)
                right = model_fma(y, voice.numbers[12], right)
        row += [model_told(left), model_told(right)]
    return row


def model_voices(steps):
    voices = [ModelVoice([ONE] + [0] * 12) for _ in range(8)]
    answers = []
    for call, which, *numbers in steps:
        if not 0 <= which <= (2048 if call == 4 else 7):
            answers.append([-1])
        elif call == 4:
            answers.append([0] + model_played(voices, which))
        else:
            if call == 1:
                voices[which] = ModelVoice(numbers)
            elif call == 2:
                voices[which].on()
            else:
                voices[which].off()
            answers.append([0])
    return joined(answers)


def joined(answers):
    """The answers of steps as one list: before each but the first stands how many numbers it has."""
    return [number for answer in answers for number in [len(answer)] + answer][1:]


class Numbers:
    """A row of numbers of all sorts, the same at each run."""

    def __init__(self, seed):
        self.source = random.Random(seed)

    def single(self):
        pick = self.source.randrange(8)
        sign = self.source.choice((0, MINUS))
        if pick == 0:
            return self.source.choice((0, MINUS, ONE, INFINITE, INFINITE | MINUS, 0x7FC00000, 1, 0x00800000, GREATEST))
        if pick == 1:
            return self.source.getrandbits(32)
        if pick == 2:
            return sign | self.source.randrange(0x00000000, 0x01800000)
        if pick == 3:
            return sign | self.source.randrange(0x1E000000, 0x21000000)
        if pick == 4:
            return sign | self.source.randrange(0x7E000000, 0x7F800000)
        return sign | self.source.randrange(0x3C000000, 0x40800000)

    def singles(self, count):
        return [self.single() for _ in range(count)]

    def beside_a_power(self):
        """A power of two or one near it; or, at the ends, a least or a greatest number, or one past these."""
        beside = self.source.randrange(256) << 23
        return max(beside + self.source.randrange(-2, 3), 0) | self.source.choice((0, MINUS))

    def level(self):
        """A number from -1024 to 1024, so that gains are met from 0 up to past the greatest."""
        return self.source.randrange(0x40000000, 0x44800000) | self.source.choice((0, MINUS))

    def fraction_double(self):
        """A double from 0 to below 1."""
        least = self.source.choice((0, 0x3C00000000000000, 0x3FA0000000000000, DOUBLE_ONE - 4))
        return self.source.randrange(least, DOUBLE_ONE)

    def step(self):
        """A step of voices: few voices, so that they meet again, and short plays; some are refused."""
        call = self.source.choice((1, 2, 2, 3, 4, 4))
        if call == 4:
            return [4, self.source.choice((-1, 0, 1, 2, 3, 5, 8, 2049))]
        which = self.source.choice((0, 0, 1, 1, 2, 7, -1, 8))
        if call != 1:
            return [call, which]
        return [1, which] + (self.singles(13) if self.below(4) == 0 else [self.tame() for _ in range(13)])

    def tame(self):
        """A number from 1/32 to 1, sometimes below 0."""
        return self.source.randrange(0x3D000000, ONE) | self.source.choice((0, 0, 0, MINUS))

    def below(self, count):
        return self.source.randrange(count)


class ReadOnly(list):
    """A list that fails where it is changed, be it for a while only."""

    def refuse(self, *given, **named):
        raise AssertionError("what was handed in is changed")

    __setitem__ = __delitem__ = __iadd__ = __imul__ = refuse
    append = extend = insert = pop = remove = clear = sort = reverse = refuse


def read_only(given):
    return ReadOnly([read_only(part) for part in given]) if isinstance(given, list) else given


def check_call(case, call, given, expected):
    """Calls twice, with lists that may not be changed; each answer is to be expected's very numbers."""
    handed = [read_only(part) for part in given]
    for _ in range(2):
        answer = call(*handed)
        case.assertIs(type(answer), list)
        case.assertLessEqual({type(number) for number in answer}, {int})
        case.assertEqual(expected, answer)
    case.assertEqual(given, handed)
