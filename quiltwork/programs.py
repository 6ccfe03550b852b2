"""Programs: their steps and shapes, where they stand, and what their steps may be."""

from quiltwork.reader import parts_of
from quiltwork.shapes import SHAPE_LENGTH

END = 0
SHAPE = 1
FREE = 2
ZERO = 3
LOAD = 4
STORE = 5
FIRST_DOT = 6
LAST_DOT = 10
SET = 11
ADD = 12
COPY = 13
AGAIN = 14

STEP_LENGTH = 5
MOST_STEPS = 1024
NUMBERS = 8


class Step:
    def __init__(self, kind, x, y, z, v):
        self.kind = kind
        self.x = x
        self.y = y
        self.z = z
        self.v = v

    def is_dot(self):
        return FIRST_DOT <= self.kind <= LAST_DOT

    def dot_kind(self):
        return self.kind - FIRST_DOT

    def is_move(self):
        return self.kind == LOAD or self.kind == STORE


class Program:
    def __init__(self, steps, shapes):
        self.steps = steps
        self.shapes = shapes
        self.at = 0
        self.numbers = [0] * NUMBERS
        self.paid = 0
        # What a run answered that came to the end or a fault: it answers so ever after.
        self.ended = None

    def has_step(self):
        return self.at < len(self.steps)

    def step(self):
        return self.steps[self.at]

    # Steps and shapes are never changed, so both may hold the same ones.
    def twin(self):
        other = Program(self.steps, self.shapes)
        other.at = self.at
        other.numbers = list(self.numbers)
        other.paid = self.paid
        other.ended = self.ended
        return other


def is_program(steps, shapes):
    if len(steps) % STEP_LENGTH != 0 or len(steps) > STEP_LENGTH * MOST_STEPS:
        return False
    return len(shapes) % SHAPE_LENGTH == 0


def program_of(steps, shapes):
    parts = parts_of(steps, STEP_LENGTH)
    read_steps = [Step(part[0], part[1], part[2], part[3], part[4]) for part in parts]
    return Program(read_steps, parts_of(shapes, SHAPE_LENGTH))
