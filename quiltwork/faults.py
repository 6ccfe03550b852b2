"""Faults that a step is looked at for whenever it is come to."""

from quiltwork.programs import AGAIN, NUMBERS, SHAPE, ZERO
from quiltwork.shapes import is_shape

NO_FAULT = 0
NO_STEP = 1
NO_SHAPE = 2
NO_FIT = 3
OUTSIDE = 4
NOT_IN_RANGE = 5


def is_step(step, shapes):
    if step.kind > AGAIN or max(step.x, step.y, step.z) >= NUMBERS:
        return False
    return step.kind != SHAPE or step.v < len(shapes)


def dot_fault(step, tiles):
    if not tiles.dot_fits(step.x, step.y, step.z):
        return NO_FIT
    if not tiles.dot_is_in_range(step.dot_kind(), step.x, step.y, step.z):
        return NOT_IN_RANGE
    return NO_FAULT


def fault_of(program, tiles):
    if not program.has_step() or not is_step(program.step(), program.shapes):
        return NO_STEP
    step = program.step()
    if step.kind == SHAPE and not is_shape(program.shapes[step.v]):
        return NO_SHAPE
    if (step.kind == ZERO or step.is_move()) and not tiles.is_there(step.x):
        return NO_FIT
    if step.is_dot():
        return dot_fault(step, tiles)
    return NO_FAULT
