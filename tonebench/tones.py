"""The calls of the workshop: each takes lists of whole numbers and gives back one list of whole numbers."""

from tonebench.binary import DOUBLE, ONE, SINGLE
from tonebench.binary import add, double_of_whole, floor, fma, fms, less, multiply, negated, not_less
from tonebench.binary import single_of_double, subtract, told, whole_below

# The most places of a row.
MOST = 4096


def refusal():
    """What is answered where a call is refused."""
    return [-1]


def answer(parts):
    """0, then each part with how many numbers it has before it."""
    numbers = [0]
    for part in parts:
        numbers.append(len(part))
        numbers.extend(part)
    return numbers


def turned(turning, c, s):
    """The point (c, s) turned once."""
    a = turning[0]
    b = turning[1]
    return (
        fms(SINGLE, c, a, multiply(SINGLE, s, b)),
        fma(SINGLE, c, b, multiply(SINGLE, s, a)),
    )


def turn(turning, point, n):
    """A tone by turning a point: its second part at each of n places, then the point."""
    if not 0 <= n[0] <= MOST:
        return refusal()
    now = (point[0], point[1])
    row = []
    for place in range(n[0]):
        row.append(told(SINGLE, now[1]))
        now = turned(turning, now[0], now[1])
    return answer([row, [told(SINGLE, now[0]), told(SINGLE, now[1])]])


def table_fits(entries, step, place):
    """Whether a table's length, step and place are as promised."""
    one = DOUBLE[ONE]
    return (
        1 <= len(entries) <= MOST
        and less(DOUBLE, negated(DOUBLE, one), step)
        and less(DOUBLE, step, one)
        and not_less(DOUBLE, place, 0)
        and not_less(DOUBLE, one, place)
    )


def part_above_floor(x):
    """x - floor x, of a finite double."""
    return subtract(DOUBLE, x, floor(x))


def between_entries(entries, place):
    """What a table holds at a place, between two entries in a straight line."""
    x = multiply(DOUBLE, place, double_of_whole(len(entries)))
    f = single_of_double(part_above_floor(x))
    at = whole_below(x) % len(entries)
    u = entries[at]
    w = entries[(at + 1) % len(entries)]
    return fma(SINGLE, f, subtract(SINGLE, w, u), u)


def table(entries, step, place, n):
    """A tone by a table: what it holds at each of n places, then the place."""
    if not 0 <= n[0] <= MOST or not table_fits(entries, step[0], place[0]):
        return refusal()
    now = place[0]
    row = []
    for count in range(n[0]):
        row.append(told(SINGLE, between_entries(entries, now)))
        now = part_above_floor(add(DOUBLE, now, step[0]))
    return answer([row, [now]])


def next_height(slopes, stage, v):
    """The height and the stage that follow upon v and its stage."""
    if stage == 1:
        risen = add(SINGLE, v, slopes[0])
        return (SINGLE[ONE], 2) if not_less(SINGLE, risen, SINGLE[ONE]) else (risen, 1)
    if stage == 2:
        fallen = subtract(SINGLE, v, slopes[1])
        return (slopes[2], 3) if not_less(SINGLE, slopes[2], fallen) else (fallen, 2)
    if stage == 3:
        return (v, 3)
    if stage == 4:
        fading = subtract(SINGLE, v, slopes[3])
        return (0, 0) if not_less(SINGLE, 0, fading) else (fading, 4)
    return (0, 0)


def heights(slopes, stage, v, n):
    """An envelope: the height at each of n places, then the height, then the stage."""
    if not 0 <= n[0] <= MOST or not 0 <= stage[0] <= 4:
        return refusal()
    now = (v[0], stage[0])
    row = []
    for place in range(n[0]):
        now = next_height(slopes, now[1], now[0])
        row.append(told(SINGLE, now[0]))
    return answer([row, [told(SINGLE, now[0])], [now[1]]])
