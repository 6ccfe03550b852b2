"""Programs: their steps and shapes, where they stand, and what their steps may be."""

from quiltwork.shapes import SHAPE_LENGTH

END = 0
SHAPE = 1
FREE = 2
ZERO = 3
LOAD = 4
STORE = 5
FIRST_DOT = 6
LAST_DOT = 10
SET = 11
ADD = 12
COPY = 13
AGAIN = 14

STEP_LENGTH = 5
MOST_STEPS = 1024
NUMBERS = 8


class Step:
    def __init__(self, numbers):
        self.kind = numbers[0]
        self.x = numbers[1]
        self.y = numbers[2]
        self.z = numbers[3]
        self.v = numbers[4]

    def is_dot(self):
        return FIRST_DOT <= self.kind <= LAST_DOT

    def dot_kind(self):
        return self.kind - FIRST_DOT

    def is_move(self):
        return self.kind == LOAD or self.kind == STORE


class Program:
    def __init__(self, steps, shapes):
        self.steps = [Step(steps[q:q + STEP_LENGTH]) for q in range(0, len(steps), STEP_LENGTH)]
        self.shapes = [shapes[q:q + SHAPE_LENGTH] for q in range(0, len(shapes), SHAPE_LENGTH)]
        self.at = 0
        self.numbers = [0] * NUMBERS
        self.paid = 0
        # What a run answered that came to the end or a fault: it answers so ever after.
        self.ended = None

    def has_step(self):
        return self.at < len(self.steps)

    def step(self):
        return self.steps[self.at]


def is_program(steps, shapes):
    if len(steps) % STEP_LENGTH != 0 or len(steps) > STEP_LENGTH * MOST_STEPS:
        return False
    return len(shapes) % SHAPE_LENGTH == 0
