"""What happens at one place of a row: each takes what stands there so far and gives what stands there then."""

from tonebench.binary import MINUS, ONE, SINGLE
from tonebench.binary import add, digits, exponent, finite_quotient, fma, fms, fnma, horner, is_finite, is_infinite
from tonebench.binary import is_no_number, less, magnitude, multiply, nearest_whole, no_number, not_less, of_whole
from tonebench.binary import rounded, subtract, whole_above, whole_below, whole_towards_zero

HALF = 0x3F000000

LEVEL_FACTORS = (0xBDA0A581, 0x3F2043A5, 0xC0050372, 0x4080EF4D, 0xC01FE505)
LEVEL_SCALE = 0x40C0A8C1

GAIN_FACTORS = (0x3C1D955B, 0x3D635847, 0x3E75FDF0, 0x3F317218, 0x3F800000)
GAIN_SCALE = 0x3E2A152D


def turned(turning, c, s):
    """The point (c, s) turned once."""
    a = turning[0]
    b = turning[1]
    return (
        fms(SINGLE, c, a, multiply(SINGLE, s, b)),
        fma(SINGLE, c, b, multiply(SINGLE, s, a)),
    )


def next_height(slopes, stage, v):
    """The height and the stage that follow upon v and its stage."""
    if stage == 1:
        risen = add(SINGLE, v, slopes[0])
        return (SINGLE[ONE], 2) if not_less(SINGLE, risen, SINGLE[ONE]) else (risen, 1)
    if stage == 2:
        fallen = subtract(SINGLE, v, slopes[1])
        return (slopes[2], 3) if not_less(SINGLE, slopes[2], fallen) else (fallen, 2)
    if stage == 3:
        return (v, 3)
    if stage == 4:
        fading = subtract(SINGLE, v, slopes[3])
        return (0, 0) if not_less(SINGLE, 0, fading) else (fading, 4)
    return (0, 0)


def through_filter(factors, z1, z2, x):
    """What comes of x through a filter that keeps z1 and z2, then the two that it keeps from there on."""
    y = fma(SINGLE, factors[0], x, z1)
    return (
        y,
        fma(SINGLE, factors[1], x, fnma(SINGLE, factors[3], y, z2)),
        fnma(SINGLE, factors[4], y, multiply(SINGLE, factors[2], x)),
    )


def halved(x):
    """x * 0.5."""
    return multiply(SINGLE, x, HALF)


def damped(damp, u, w):
    """What stands on a string in the place of u, where w is the next one."""
    return multiply(SINGLE, halved(add(SINGLE, u, w)), damp)


def softened(x):
    """x / (1 + |x|)."""
    # What an infinite x would be divided by is infinite too.
    if not is_finite(SINGLE, x):
        return no_number(SINGLE)
    return finite_quotient(SINGLE, x, add(SINGLE, SINGLE[ONE], magnitude(SINGLE, x)))


def level(x):
    """The level of a finite number above 0; of others no number."""
    if not less(SINGLE, 0, x) or not is_finite(SINGLE, x):
        return no_number(SINGLE)
    # x is m * 2^e with m from 1 to below 2, for a number below the normal ones too.
    size = digits(SINGLE, x)
    power = size.bit_length() - 1
    m = rounded(SINGLE, size, -power, 0)
    e = of_whole(SINGLE, exponent(SINGLE, x) + power)
    return multiply(SINGLE, add(SINGLE, horner(SINGLE, LEVEL_FACTORS, m), e), LEVEL_SCALE)


def gain(x):
    """The gain of a level; no number of an infinite one, or of no number."""
    y = multiply(SINGLE, x, GAIN_SCALE)
    if not is_finite(SINGLE, y):
        return no_number(SINGLE)
    k = nearest_whole(SINGLE, y)
    p = horner(SINGLE, GAIN_FACTORS, subtract(SINGLE, y, of_whole(SINGLE, k)))
    # 2^k itself may be past the greatest number, or below the least one, where the product isn't.
    return rounded(SINGLE, digits(SINGLE, p), exponent(SINGLE, p) + k, 0)


def whole(how, x):
    """A finite x as a whole number: the nearest, below, above, or towards 0."""
    if how == 0:
        return nearest_whole(SINGLE, x)
    if how == 1:
        return whole_below(SINGLE, x)
    if how == 2:
        return whole_above(SINGLE, x)
    return whole_towards_zero(SINGLE, x)


def held_whole(how, bits, x):
    """x as a whole number that is held within the signed numbers of so many bits; 0 for no number."""
    past = 1 << (bits - 1)
    if is_no_number(SINGLE, x):
        return 0
    if is_infinite(SINGLE, x):
        return -past if x & SINGLE[MINUS] else past - 1
    return max(-past, min(whole(how, x), past - 1))
