"""What is measured over a whole row of singles."""

from tonebench.binary import DOUBLE, SINGLE, WIDTH
from tonebench.binary import add, double_of_single, fma, is_infinite, is_no_number, magnitude

SUMS = 8


def greatest_size(row):
    """The greatest |x| of those that are numbers; 0 where none is."""
    # Without their signs, numbers stand in the order of their bits.
    return max([magnitude(SINGLE, x) for x in row if not is_no_number(SINGLE, x)], default=0)


def kind(x):
    """Which of the five kinds x is of: no number, infinite, below the normal ones, a zero, or another."""
    size = magnitude(SINGLE, x)
    if is_no_number(SINGLE, x):
        return 0
    if is_infinite(SINGLE, x):
        return 1
    if size == 0:
        return 3
    return 2 if size < 1 << SINGLE[WIDTH] else 4


def counts_of_kinds(row):
    """How many are of each of the five kinds."""
    counts = [0] * 5
    for x in row:
        counts[kind(x)] += 1
    return counts


def put_together(sums):
    """Sums in doubles, as many as a power of two, added to one: each of the first half and its fellow of the second."""
    while len(sums) > 1:
        half = len(sums) // 2
        sums = [add(DOUBLE, sums[k], sums[k + half]) for k in range(half)]
    return sums[0]


def sum_of_squares(row):
    """The sum of all squares, as a double, by eight sums that take turns."""
    sums = [0] * SUMS
    for place in range(len(row)):
        x = double_of_single(row[place])
        sums[place % SUMS] = fma(DOUBLE, x, x, sums[place % SUMS])
    return put_together(sums)
