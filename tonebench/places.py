"""What happens at one place of a row: each takes what stands there so far and gives what stands there then."""

from tonebench.binary import ONE, SINGLE
from tonebench.binary import add, fma, fms, fnma, multiply, not_less, subtract

HALF = 0x3F000000


def turned(turning, c, s):
    """The point (c, s) turned once."""
    a = turning[0]
    b = turning[1]
    return (
        fms(SINGLE, c, a, multiply(SINGLE, s, b)),
        fma(SINGLE, c, b, multiply(SINGLE, s, a)),
    )


def next_height(slopes, stage, v):
    """The height and the stage that follow upon v and its stage."""
    if stage == 1:
        risen = add(SINGLE, v, slopes[0])
        return (SINGLE[ONE], 2) if not_less(SINGLE, risen, SINGLE[ONE]) else (risen, 1)
    if stage == 2:
        fallen = subtract(SINGLE, v, slopes[1])
        return (slopes[2], 3) if not_less(SINGLE, slopes[2], fallen) else (fallen, 2)
    if stage == 3:
        return (v, 3)
    if stage == 4:
        fading = subtract(SINGLE, v, slopes[3])
        return (0, 0) if not_less(SINGLE, 0, fading) else (fading, 4)
    return (0, 0)


def through_filter(factors, z1, z2, x):
    """What comes of x through a filter that keeps z1 and z2, then the two that it keeps from there on."""
    y = fma(SINGLE, factors[0], x, z1)
    return (
        y,
        fma(SINGLE, factors[1], x, fnma(SINGLE, factors[3], y, z2)),
        fnma(SINGLE, factors[4], y, multiply(SINGLE, factors[2], x)),
    )


def halved(x):
    """x * 0.5."""
    return multiply(SINGLE, x, HALF)


def damped(damp, u, w):
    """What stands on a string in the place of u, where w is the next one."""
    return multiply(SINGLE, halved(add(SINGLE, u, w)), damp)
