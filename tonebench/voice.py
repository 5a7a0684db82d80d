"""The voices that are played together."""

from tonebench.binary import ONE, SINGLE
from tonebench.binary import fma, multiply
from tonebench.places import next_height, through_filter, turned


class Voice:
    """One voice: a turning point, its height and a filter; silent where its stage is 0."""

    def __init__(self):
        self.set_up([SINGLE[ONE], 0] + [0] * 11)

    def set_up(self, numbers):
        """Takes the thirteen singles of a voice, and is silent."""
        self.turning = numbers[0:2]
        self.slopes = numbers[2:6]
        self.factors = numbers[6:11]
        self.left = numbers[11]
        self.right = numbers[12]
        self.rest(0)

    def rest(self, stage):
        """Stands at the beginning, with this stage."""
        self.point = (SINGLE[ONE], 0)
        self.stage = stage
        self.v = 0
        self.kept = (0, 0)

    def begin(self):
        """Begins to rise, wherever it was."""
        self.rest(1)

    def finish(self):
        """Begins to end, if it isn't silent."""
        if self.stage != 0:
            self.stage = 4

    def sound(self):
        """What it sounds at one place; then it stands at the next one."""
        height = next_height(self.slopes, self.stage, self.v)
        self.v = height[0]
        self.stage = height[1]
        x = multiply(SINGLE, self.point[1], self.v)
        passed = through_filter(self.factors, self.kept[0], self.kept[1], x)
        self.kept = passed[1:]
        self.point = turned(self.turning, self.point[0], self.point[1])
        return passed[0]


def both_sides(voices):
    """What all the voices that aren't silent sound together at one place, left and right."""
    left = 0
    right = 0
    for voice in voices:
        if voice.stage != 0:
            y = voice.sound()
            left = fma(SINGLE, y, voice.left, left)
            right = fma(SINGLE, y, voice.right, right)
    return [left, right]
