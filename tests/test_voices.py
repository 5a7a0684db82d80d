"""Promises 10 and 11: voices."""

import itertools
import unittest

from model import (
    GREATEST, INFINITE, MINUS, NO_NUMBERS, ONE, Numbers, check_call, joined, model_voices, single,
)
from tonebench.tones import voices

STEP = 2.0 ** -12
ENDS = (-2147483648, 2147483647)
NAMES = ("a", "b", "rise", "fall", "height", "end", "b0", "b1", "b2", "a1", "a2", "left", "right")
# A quarter turn at each place, at once at its height, heard as it is.
PLAIN = {"a": 0.0, "b": 1.0, "rise": 1.0, "end": 1.0, "b0": 1.0, "left": 1.0, "right": 2.0}
# What it sounds at its first five places, left and right.
PLAIN_ROW = [0.0, 0.0, 1.0, 2.0, 0.0, 0.0, -1.0, -2.0, 0.0, 0.0]
# The second parts of the point, turned by (1, 1), at the places 0, 1, 2 ..
SPIRAL = (0.0, 1.0, 2.0, 2.0, 0.0, -4.0, -8.0, -8.0, 0.0, 16.0, 32.0, 32.0)


def thirteen(**changed):
    numbers = {**PLAIN, **changed}
    return [single(numbers.get(name, 0.0)) for name in NAMES]


def voice(which, **changed):
    return [1, which] + thirteen(**changed)


def on(which):
    return [2, which]


def off(which):
    return [3, which]


def play(n):
    return [4, n]


def played(row):
    return [0] + [single(value) for value in row]


def silence(n):
    return [0] + [0] * (2 * n)


class Voices(unittest.TestCase):
    def check(self, steps, answers):
        check_call(self, voices, [steps], joined(answers))

    def sounds(self, steps, row):
        """Steps of which none is refused and the last one plays, with what it plays."""
        self.check(steps, [[0]] * (len(steps) - 1) + [played(row)])

    def same_as(self, steps, others):
        """Both end with the same play."""
        n = 2 * steps[-1][1] + 1
        self.assertEqual(voices(others)[-n:], voices(steps)[-n:])

    def test_two_voices(self):
        first = [0x3F7490EF, 0x3E974E6D, 0x3ECCCCCD, 0x3E19999A, 0x3F19999A, 0x3EB33333, 0x3E538EF3, 0x3ED381D8,
                 0x3E538EF3, 0xBEBD2F1B, 0x3E487FCC, 0x3F333333, 0x3E99999A]
        second = [0x3F41D773, 0x3F234541, 0x3F666666, 0x3E99999A, 0x3F000000, 0x3E4CCCCD, 0x3F8CCCCD, 0xBFF33333,
                  0x3F6E147B, 0xBFECCCCD, 0x3F7851EC, 0x3E4CCCCD, 0xBF4CCCCD]
        steps = [[1, 0] + first, on(0), play(4), [1, 5] + second, on(5), play(5), off(0), play(3)]
        check_call(self, voices, [steps], [
            0, 1, 0, 9, 0, 0, 0, 0x3D0C0B58, 0x3C701373, 0x3E268F6A, 0x3D8EC412, 0x3EB1BFE8, 0x3E185B5A, 1, 0, 1, 0,
            11, 0, 0x3EEE11E5, 0x3E4C0F57, 0x3F1D9B8A, 0xBEB70D55, 0x3F1A3C1F, 0xBEF4196D, 0x3F05FE60, 0xBEA80DA0,
            0x3EDA6687, 0xBE0AA44A, 1, 0, 7, 0, 0x3E814A66, 0x3E1346B7, 0x3D0E9376, 0x3EC07CA0, 0xBDF36F1F, 0x3EF36F1F,
        ])

    def test_no_steps(self):
        self.check([], [])

    def test_one_step(self):
        self.check([voice(0)], [[0]])
        self.check([on(0)], [[0]])
        self.check([off(0)], [[0]])
        self.check([play(0)], [[0]])
        self.check([play(2)], [silence(2)])
        self.check([play(-1)], [[-1]])
        self.check([on(8)], [[-1]])

    def test_how_many_numbers_stand_before_each_answer(self):
        steps = [play(1), play(0), on(8), play(2), play(2049), on(0), voice(8), voice(0), off(0)]
        check_call(self, voices, [steps], [0, 0, 0, 1, 0, 1, -1, 5, 0, 0, 0, 0, 0, 1, -1, 1, 0, 1, -1, 1, 0, 1, 0])

    def test_a_plain_voice(self):
        self.sounds([voice(0), on(0), play(5)], PLAIN_ROW)
        for n in range(5):
            self.sounds([voice(0), on(0), play(n)], PLAIN_ROW[:2 * n])

    def test_every_order_of_four(self):
        for order in itertools.permutations((voice(3), on(3), off(3), play(4))):
            calls = [step[0] for step in order]
            before_play = calls[:calls.index(4)]
            # What's heard is on after voice, and not off after on.
            heard = before_play in ([1, 2], [3, 1, 2], [1, 3, 2])
            row = played(PLAIN_ROW[:8]) if heard else silence(4)
            self.check(list(order), [row if call == 4 else [0] for call in calls])

    def test_every_order_of_six_steps(self):
        kinds = (voice(1, rise=0.5, fall=0.25, height=0.5, end=0.25), on(1), off(1), play(3))
        for order in itertools.product(kinds, repeat=5):
            steps = list(order) + [play(3)]
            self.assertEqual(model_voices(steps), voices(steps), steps)

    def test_play_before_any_voice(self):
        self.check([play(3), voice(0), on(0), play(2)], [silence(3), [0], [0], played(PLAIN_ROW[:4])])

    def test_voices_whose_numbers_are_not_given(self):
        for which in range(8):
            self.check([on(which), play(5)], [[0], silence(5)])
            self.check([on(which), play(5), off(which), play(5)], [[0], silence(5), [0], silence(5)])
        self.check([on(which) for which in range(8)] + [play(3)], [[0]] * 8 + [silence(3)])

    def test_a_voice_plays_on(self):
        whole = [voice(0), on(0), play(5)]
        self.sounds(whole, PLAIN_ROW)
        for first in range(6):
            self.check(
                [voice(0), on(0), play(first), play(5 - first)],
                [[0], [0], played(PLAIN_ROW[:2 * first]), played(PLAIN_ROW[2 * first:])],
            )
        self.check(
            [voice(0), on(0)] + [play(1)] * 5,
            [[0], [0]] + [played(PLAIN_ROW[2 * k:2 * k + 2]) for k in range(5)],
        )

    def test_other_voices_steps_leave_it_playing(self):
        self.check(
            [voice(0), on(0), play(2), voice(1), off(1), on(2), off(2), voice(7), play(3)],
            [[0], [0], played(PLAIN_ROW[:4])] + [[0]] * 5 + [played(PLAIN_ROW[4:])],
        )

    def test_on_begins_anew(self):
        self.check(
            [voice(0), on(0), play(2), on(0), play(5), on(0), on(0), play(5)],
            [[0], [0], played(PLAIN_ROW[:4]), [0], played(PLAIN_ROW), [0], [0], played(PLAIN_ROW)],
        )

    def test_on_begins_anew_with_all_that_changes(self):
        rich = voice(0, a=0.5, b=0.75, rise=0.375, fall=0.125, height=0.5, end=0.25, b1=0.5, b2=0.25, a1=-0.5, a2=0.25)
        for between in ([play(1)], [play(2)], [play(9)], [play(4), off(0), play(1)], [play(4), off(0), play(9)]):
            self.same_as([rich, on(0)] + between + [on(0), play(7)], [rich, on(0), play(7)])
            self.same_as([rich, on(0)] + between + [rich, on(0), play(7)], [rich, on(0), play(7)])

    def test_off_of_a_silent_voice(self):
        self.check([off(0), voice(0), off(0), play(3)], [[0], [0], [0], silence(3)])
        self.sounds([voice(0), off(0), off(0), on(0), play(5)], PLAIN_ROW)

    def test_off_at_once(self):
        self.check([voice(0), on(0), off(0), play(3)], [[0], [0], [0], silence(3)])
        # With an end below 0 its height rises from 0.
        self.sounds(
            [voice(0, a=1.0, end=-0.5), on(0), off(0), play(4)],
            [0.0, 0.0, 1.0, 2.0, 3.0, 6.0, 4.0, 8.0],
        )

    def test_off_twice_goes_on_ending(self):
        slow = voice(0, a=1.0, end=0.25)
        # Heights 1, 1, 0.75, 0.5, 0.25, 0.
        row = [2 * 0.75, 4 * 0.75, 2 * 0.5, 4 * 0.5, 0.0, 0.0, 0.0, 0.0]
        self.check([slow, on(0), play(2), off(0), play(4)], [[0], [0], played([0.0, 0.0, 1.0, 2.0]), [0], played(row)])
        self.check(
            [slow, on(0), play(2), off(0), play(1), off(0), off(0), play(3)],
            [[0], [0], played([0.0, 0.0, 1.0, 2.0]), [0], played(row[:2]), [0], [0], played(row[2:])],
        )

    def test_off_after_the_end_stays_silent(self):
        self.check(
            [voice(0), on(0), play(2), off(0), play(3), off(0), play(2)],
            [[0], [0], played(PLAIN_ROW[:4]), [0], silence(3), [0], silence(2)],
        )

    def test_voice_over_a_sounding_one(self):
        self.check(
            [voice(0), on(0), play(2), voice(0, left=4.0), play(2), off(0), play(2), on(0), play(2)],
            [[0], [0], played(PLAIN_ROW[:4]), [0], silence(2), [0], silence(2), [0], played([0.0, 0.0, 4.0, 2.0])],
        )

    def test_stages_within_a_play(self):
        stages = voice(0, a=1.0, rise=0.375, fall=0.25, height=0.25, end=0.125)
        heights = (0.375, 0.75, 1.0, 0.75, 0.5, 0.25, 0.25)
        first = [side * s * v for s, v in zip(SPIRAL, heights) for side in (1.0, 2.0)]
        # Its end: 0.125, and then 0 where the point stands at 0 as well.
        self.check(
            [stages, on(0), play(7), off(0), play(3)],
            [[0], [0], played(first), [0], played([-1.0, -2.0, 0.0, 0.0, 0.0, 0.0])],
        )
        # Off while it rises, and while it falls.
        self.check(
            [stages, on(0), play(2), off(0), play(4)],
            [[0], [0], played(first[:4]), [0], played([1.25, 2.5, 1.0, 2.0, 0.0, 0.0, -1.0, -2.0])],
        )
        self.check(
            [stages, on(0), play(4), off(0), play(3)],
            [[0], [0], played(first[:8]), [0], played([0.0, 0.0, -2.0, -4.0, -3.0, -6.0])],
        )

    def test_what_is_heard_where_it_ends(self):
        # The filter tells each number one place later: at the last place that of the place before, then nothing.
        late = voice(0, b0=0.0, b1=1.0)
        self.sounds([late, on(0), play(4)], [0.0, 0.0, 0.0, 0.0, 1.0, 2.0, 0.0, 0.0])
        self.check(
            [late, on(0), play(2), off(0), play(3)],
            [[0], [0], silence(2), [0], played([1.0, 2.0, 0.0, 0.0, 0.0, 0.0])],
        )
        later = voice(0, b0=0.0, b2=1.0)
        self.check([later, on(0), play(2), off(0), play(3)], [[0], [0], silence(2), [0], silence(3)])

    def test_the_filter(self):
        # The row 0, 1, 0, -1, 0 through each of the five.
        self.sounds([voice(0, b0=3.0, right=1.0), on(0), play(5)], [0, 0, 3, 3, 0, 0, -3, -3, 0, 0])
        self.sounds([voice(0, b1=3.0, right=1.0), on(0), play(5)], [0, 0, 1, 1, 3, 3, -1, -1, -3, -3])
        self.sounds([voice(0, b2=3.0, right=1.0), on(0), play(5)], [0, 0, 1, 1, 0, 0, 2, 2, 0, 0])
        self.sounds([voice(0, a1=3.0, right=1.0), on(0), play(5)], [0, 0, 1, 1, -3, -3, 8, 8, -24, -24])
        self.sounds([voice(0, a2=3.0, right=1.0), on(0), play(5)], [0, 0, 1, 1, 0, 0, -4, -4, 0, 0])

    def test_the_order_of_voices(self):
        # At the second place each sounds 1. Beside 1 a number of 2^-24 is lost, two of them are not.
        tie = 2.0 ** -24
        for places in itertools.permutations((0, 4, 7)):
            sides = dict(zip(places, ((1.0, tie), (tie, 1.0), (tie, tie))))
            steps = [voice(which, left=left, right=right) for which, (left, right) in sides.items()]
            steps += [on(which) for which in places]
            left, right = [1 + 2 * tie if sides[7][side] == 1.0 else 1.0 for side in (0, 1)]
            self.sounds(steps + [play(2)], [0.0, 0.0, left, right])

    def test_eight_voices(self):
        steps = [voice(which, left=2.0 ** which, right=3.0 ** which) for which in range(8)]
        self.sounds(steps + [on(which) for which in range(8)] + [play(2)], [0.0, 0.0, 255.0, 3280.0])
        for heard in range(8):
            self.sounds(steps + [on(heard), play(2)], [0.0, 0.0, 2.0 ** heard, 3.0 ** heard])

    def test_each_side_is_rounded_once(self):
        # y is 1 + 2^-12; y times left is 1 + 2^-11 + 2^-24: rounded by itself it would lose the last part, and leave 0.
        fine = 1 + STEP
        steps = [voice(0, left=-1 - 2 * STEP, right=0.0), voice(1, b0=fine, left=fine, right=0.0), on(0), on(1)]
        self.sounds(steps + [play(2)], [0.0, 0.0, 2.0 ** -24, 0.0])
        steps = [voice(0, left=0.0, right=-1 - 2 * STEP), voice(1, b0=fine, left=0.0, right=fine), on(0), on(1)]
        self.sounds(steps + [play(2)], [0.0, 0.0, 0.0, 2.0 ** -24])

    def test_what_goes_into_the_filter_is_rounded(self):
        # s and v are 1 + 2^-12, s v is rounded to 1 + 2^-11; unrounded, times b0 it would be nearer to the next one.
        fine = voice(0, b=1 + STEP, fall=-STEP, b0=1 + 2.0 ** -23, right=0.0)
        self.sounds([fine, on(0), play(2)], [0.0, 0.0, 1 + 2 * STEP + 2.0 ** -23, 0.0])

    def test_sides_begin_with_zero(self):
        # -0 and 0 are 0.
        self.sounds([voice(0, left=-1.0, right=-2.0), on(0), play(3)], [0.0, 0.0, -1.0, -2.0, 0.0, 0.0])
        self.check([voice(0, rise=-0.0, left=-1.0), on(0), play(4)], [[0], [0], silence(4)])
        # A product too small for a number is -0, and stays it beside 0.
        tiny = voice(0, b0=2.0 ** -80, left=-(2.0 ** -80), right=2.0 ** -80)
        self.check([tiny, on(0), play(2)], [[0], [0], [0, 0, 0, MINUS, 0]])

    def test_numbers_below_the_normal_ones(self):
        self.sounds(
            [voice(0, b0=2.0 ** -75, left=3 * 2.0 ** -75, right=2.0 ** -60), on(0), play(2)],
            [0.0, 0.0, 2.0 ** -148, 2.0 ** -135],
        )

    def test_infinities(self):
        steps = [[1, 0] + thirteen()[:11] + [INFINITE, GREATEST], on(0), play(4)]
        down = INFINITE | MINUS
        self.check(steps, [[0], [0], [0, -1, 0, INFINITE, GREATEST, -1, 0, down, GREATEST | MINUS]])
        steps = [[1, 0] + thirteen()[:11] + [GREATEST, GREATEST], [1, 1] + thirteen()[:11] + [GREATEST, ONE]]
        self.check(
            steps + [on(0), on(1), play(2)],
            [[0], [0], [0], [0], [0, 0, 0, INFINITE, GREATEST]],
        )

    def test_no_number_is_told(self):
        for bits in NO_NUMBERS:
            left = [1, 0] + thirteen()[:11] + [bits, single(2.0)]
            self.check([left, on(0), play(2)], [[0], [0], [0, -1, 0, -1, single(2.0)]])
            right = [1, 0] + thirteen()[:12] + [bits]
            self.check([right, on(0), play(2)], [[0], [0], [0, 0, -1, ONE, -1]])
            # Whatever is no number of the turning or the filter is heard by the second or third place.
            for place in (0, 1, 2, 6, 7, 8, 9, 10):
                numbers = thirteen()
                numbers[place] = bits
                answer = voices([[1, 0] + numbers, on(0), play(4)])
                self.assertEqual(model_voices([[1, 0] + numbers, on(0), play(4)]), answer)
                self.assertEqual([-1, -1], answer[-2:])

    def test_no_number_of_a_silent_voice_is_not_heard(self):
        for bits in NO_NUMBERS:
            self.check(
                [[1, 0] + [bits] * 13, voice(1), on(1), play(2), on(0), play(1), voice(0), play(2)],
                [[0], [0], [0], played(PLAIN_ROW[:4]), [0], [0, -1, -1], [0], played(PLAIN_ROW[6:])],
            )

    def test_no_number_among_slopes(self):
        for bits in NO_NUMBERS:
            # A height that is no number is never reached; an end that is none is never over.
            numbers = thirteen(a=1.0, fall=0.25)
            numbers[4] = bits
            self.sounds([[1, 0] + numbers, on(0), play(4)], [0.0, 0.0, 0.75, 1.5, 1.0, 2.0, 0.5, 1.0])
            numbers = thirteen()
            numbers[5] = bits
            self.check(
                [[1, 0] + numbers, on(0), play(2), off(0), play(2), off(0), on(0), play(2)],
                [[0], [0], played(PLAIN_ROW[:4]), [0], [0] + [-1] * 4, [0], [0], played(PLAIN_ROW[:4])],
            )

    def test_refused_voices(self):
        for which in (-1, 8, 9, -8) + ENDS:
            for refused in (voice(which, left=9.0, right=9.0), on(which), off(which)):
                self.check([refused], [[-1]])
                self.check(
                    [voice(0), voice(7), on(0), play(2), refused, play(3), refused, off(0), on(7), play(2)],
                    [[0], [0], [0], played(PLAIN_ROW[:4]), [-1], played(PLAIN_ROW[4:]), [-1], [0], [0],
                     played(PLAIN_ROW[:4])],
                )

    def test_first_and_last_voice(self):
        for which in (0, 7):
            self.sounds([voice(which), on(which), play(5)], PLAIN_ROW)
            self.check([voice(which), on(which), off(which), play(5)], [[0], [0], [0], silence(5)])

    def test_refused_plays(self):
        for n in (-1, 2049, 2050, 4096) + ENDS:
            self.check([play(n)], [[-1]])
            self.check(
                [voice(0), on(0), play(n), play(2), play(n), play(3)],
                [[0], [0], [-1], played(PLAIN_ROW[:4]), [-1], played(PLAIN_ROW[4:])],
            )

    def test_the_longest_play(self):
        self.check([play(2048)], [silence(2048)])
        self.sounds([voice(0), on(0), play(2048)], PLAIN_ROW[:8] * 512)
        self.check(
            [voice(0), on(0), play(2048), play(1), play(2047)],
            [[0], [0], played(PLAIN_ROW[:8] * 512), played(PLAIN_ROW[:2]), played((PLAIN_ROW[:8] * 512)[2:])],
        )

    def test_no_place_played_changes_nothing(self):
        self.check(
            [voice(0), on(0), play(0), play(2), play(0), play(3)],
            [[0], [0], [0], played(PLAIN_ROW[:4]), [0], played(PLAIN_ROW[4:])],
        )

    def test_many_steps(self):
        steps = [voice(0), on(0)] + [play(1)] * 298
        answers = [[0], [0]] + [played(PLAIN_ROW[k % 4 * 2:k % 4 * 2 + 2]) for k in range(298)]
        self.check(steps, answers)

    def test_voices_are_new_each_time(self):
        self.sounds([voice(0), on(0), play(5)], PLAIN_ROW)
        self.check([play(3)], [silence(3)])
        self.check([on(0), play(3)], [[0], silence(3)])

    def test_steps_of_all_sorts(self):
        numbers = Numbers(15)
        for _ in range(600):
            steps = [numbers.step() for _ in range(numbers.below(14))]
            self.assertEqual(model_voices(steps), voices(steps), steps)


if __name__ == "__main__":
    unittest.main()
