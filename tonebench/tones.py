"""The calls of the workshop: each takes lists of whole numbers and gives back one list of whole numbers."""

from tonebench.binary import DOUBLE, ONE, SINGLE
from tonebench.binary import add, floor, fma, less, multiply, negated, not_less, of_whole
from tonebench.binary import single_of_double, subtract, told, whole_below
from tonebench.measures import counts_of_kinds, greatest_size, sum_of_squares
from tonebench.places import damped, gain, halved, held_whole, level, next_height, softened, through_filter, turned
from tonebench.voice import Voice, both_sides

# The most places of a row, the most rows that are mixed, and the most places that voices play at once.
MOST = 4096
MOST_ROWS = 32
MOST_PLAYED = 2048

VOICES = 8


def refusal():
    """What is answered where a call is refused."""
    return [-1]


def told_singles(row):
    """A row of singles as it stands in an answer."""
    return [told(SINGLE, x) for x in row]


def answer(parts):
    """0, then each part with how many numbers it has before it."""
    numbers = [0]
    for part in parts:
        numbers.append(len(part))
        numbers.extend(part)
    return numbers


def turn(turning, point, n):
    """A tone by turning a point: its second part at each of n places, then the point."""
    if not 0 <= n[0] <= MOST:
        return refusal()
    now = (point[0], point[1])
    row = []
    for place in range(n[0]):
        row.append(now[1])
        now = turned(turning, now[0], now[1])
    return answer([told_singles(row), told_singles(now)])


def table_fits(entries, step, place):
    """Whether a table's length, step and place are as promised."""
    one = DOUBLE[ONE]
    return (
        1 <= len(entries) <= MOST
        and less(DOUBLE, negated(DOUBLE, one), step)
        and less(DOUBLE, step, one)
        and not_less(DOUBLE, place, 0)
        and not_less(DOUBLE, one, place)
    )


def part_above_floor(x):
    """x - floor x, of a finite double."""
    return subtract(DOUBLE, x, floor(x))


def between_entries(entries, place):
    """What a table holds at a place, between two entries in a straight line."""
    x = multiply(DOUBLE, place, of_whole(DOUBLE, len(entries)))
    f = single_of_double(part_above_floor(x))
    at = whole_below(DOUBLE, x) % len(entries)
    u = entries[at]
    w = entries[(at + 1) % len(entries)]
    return fma(SINGLE, f, subtract(SINGLE, w, u), u)


def table(entries, step, place, n):
    """A tone by a table: what it holds at each of n places, then the place."""
    if not 0 <= n[0] <= MOST or not table_fits(entries, step[0], place[0]):
        return refusal()
    now = place[0]
    row = []
    for count in range(n[0]):
        row.append(between_entries(entries, now))
        now = part_above_floor(add(DOUBLE, now, step[0]))
    return answer([told_singles(row), [now]])


def heights(slopes, stage, v, n):
    """An envelope: the height at each of n places, then the height, then the stage."""
    if not 0 <= n[0] <= MOST or not 0 <= stage[0] <= 4:
        return refusal()
    now = (v[0], stage[0])
    row = []
    for place in range(n[0]):
        now = next_height(slopes, now[1], now[0])
        row.append(now[0])
    return answer([told_singles(row), told_singles([now[0]]), [now[1]]])


def filtered(factors, kept, given):
    """A row through a filter: what comes of it, then what the filter keeps."""
    if len(given) > MOST:
        return refusal()
    now = (0, kept[0], kept[1])
    row = []
    for x in given:
        now = through_filter(factors, now[1], now[2], x)
        row.append(now[0])
    return answer([told_singles(row), told_singles(now[1:])])


def string(damp, string, at, n):
    """A plucked string: what stands on it at each of n places, then the string, then the place."""
    size = len(string)
    if not 0 <= n[0] <= MOST or not 1 <= size <= MOST or not 0 <= at[0] < size:
        return refusal()
    held = list(string)
    now = at[0]
    row = []
    for count in range(n[0]):
        following = (now + 1) % size
        row.append(held[now])
        held[now] = damped(damp[0], held[now], held[following])
        now = following
    return answer([told_singles(row), told_singles(held), [now]])


def mix(gains, n, rows):
    """Rows of n places, one behind another, each times its gain, as one row."""
    size = n[0]
    if not 0 <= size <= MOST or len(gains) > MOST_ROWS:
        return refusal()
    row = [0] * size
    for k in range(len(gains)):
        for place in range(size):
            row[place] = fma(SINGLE, gains[k], rows[k * size + place], row[place])
    return answer([told_singles(row)])


def middle(pairs):
    """Of each pair the middle and half of the difference."""
    if len(pairs) > MOST:
        return refusal()
    row = []
    for k in range(0, len(pairs), 2):
        row.append(halved(add(SINGLE, pairs[k], pairs[k + 1])))
        row.append(halved(subtract(SINGLE, pairs[k], pairs[k + 1])))
    return answer([told_singles(row)])


def soft(row):
    """Each number of a row bent so that it stays between -1 and 1."""
    if len(row) > MOST:
        return refusal()
    return answer([told_singles([softened(x) for x in row])])


def levels(row):
    """The level of each number of a row."""
    if len(row) > MOST:
        return refusal()
    return answer([told_singles([level(x) for x in row])])


def gains(row):
    """The gain of each level of a row."""
    if len(row) > MOST:
        return refusal()
    return answer([told_singles([gain(x) for x in row])])


def sizes(row):
    """The greatest size of a row's numbers, then how many of it are of each of the five kinds."""
    if len(row) > MOST:
        return refusal()
    return answer([[greatest_size(row)], counts_of_kinds(row)])


def power(row):
    """The sum of the squares of a row, as a double."""
    if len(row) > MOST:
        return refusal()
    return answer([[told(DOUBLE, sum_of_squares(row))]])


def wholes(row, scale, how, bits):
    """Each number of a row times scale as a whole number of so many bits, rounded in one of four ways."""
    if len(row) > MOST or not 0 <= how[0] <= 3 or not 8 <= bits[0] <= 24:
        return refusal()
    return answer([[held_whole(how[0], bits[0], multiply(SINGLE, x, scale[0])) for x in row]])


def singles(numbers, scale):
    """Each whole number as a single, times scale."""
    if len(numbers) > MOST:
        return refusal()
    return answer([told_singles([multiply(SINGLE, of_whole(SINGLE, m), scale[0]) for m in numbers])])


def played(players, n):
    """What the voices play at the next n places: 0, then left and right of each."""
    if not 0 <= n <= MOST_PLAYED:
        return refusal()
    numbers = [0]
    for place in range(n):
        numbers.extend(told_singles(both_sides(players)))
    return numbers


def taken(players, step):
    """What one step is answered: 1 is voice, 2 is on, 3 is off, 4 is play."""
    if step[0] == 4:
        return played(players, step[1])
    if not 0 <= step[1] < VOICES:
        return refusal()
    player = players[step[1]]
    if step[0] == 1:
        player.set_up(step[2:])
    elif step[0] == 2:
        player.begin()
    else:
        player.finish()
    return [0]


def voices(steps):
    """Eight voices, step after step: of each its answer, but for the first with how many numbers it has before it."""
    players = [Voice() for k in range(VOICES)]
    numbers = []
    for k in range(len(steps)):
        part = taken(players, steps[k])
        if k > 0:
            numbers.append(len(part))
        numbers.extend(part)
    return numbers
