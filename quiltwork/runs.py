"""Runs: a program's steps are done as long as they can be paid."""

from quiltwork.faults import NO_FAULT, OUTSIDE, fault_of
from quiltwork.ground import READABLE, WRITABLE, lies_in_ground
from quiltwork.programs import ADD, AGAIN, COPY, END, FREE, SET, SHAPE, STORE, ZERO
from quiltwork.shapes import zero_shape

MODULUS = 18446744073709551616

CAME_TO_END = 0
PAUSES = 1
AT_CLOSED_PAGE = 2
AT_FAULT = 3


def end_with(program, answer):
    program.ended = answer
    return answer


def row_place(program, step, row):
    numbers = program.numbers
    return (numbers[step.y] + step.v + row * numbers[step.z]) % MODULUS


# None is answered by what goes on; all else is what the run answers.
def move_row(program, ground, tiles, limit):
    step = program.step()
    row = tiles.start_row
    width = tiles.widths[step.x]
    place = row_place(program, step, row)
    if not lies_in_ground(place, width):
        return end_with(program, [AT_FAULT, OUTSIDE])
    if program.paid == limit:
        return [PAUSES]
    stores = step.kind == STORE
    page = ground.first_closed(place, width, WRITABLE if stores else READABLE)
    if page is not None:
        return [AT_CLOSED_PAGE, page, 1 if stores else 0]
    if stores:
        ground.write(place, tiles.rows[step.x][row])
    else:
        tiles.rows[step.x][row] = ground.read(place, width)
    program.paid += 1
    return None


def move_rows(program, ground, tiles, limit):
    height = tiles.heights[program.step().x]
    while tiles.start_row < height:
        answer = move_row(program, ground, tiles, limit)
        if answer is not None:
            return answer
        tiles.start_row += 1
    tiles.start_row = 0
    program.at += 1
    return None


def do_tile_step(program, tiles):
    step = program.step()
    if step.kind == SHAPE:
        tiles.set_shape(program.shapes[step.v])
    elif step.kind == FREE:
        tiles.set_shape(zero_shape())
    elif step.kind == ZERO:
        tiles.zero(step.x)
    else:
        tiles.add_dot(step.dot_kind(), step.x, step.y, step.z)


def do_number_step(program):
    step = program.step()
    numbers = program.numbers
    if step.kind == SET:
        numbers[step.x] = step.v
    elif step.kind == ADD:
        numbers[step.x] = (numbers[step.x] + step.v) % MODULUS
    elif step.kind == COPY:
        numbers[step.x] = (numbers[step.y] + step.v) % MODULUS
    else:
        numbers[step.x] = (numbers[step.x] - 1) % MODULUS


def step_behind(program):
    step = program.step()
    if step.kind == AGAIN and program.numbers[step.x] != 0:
        return step.v
    return program.at + 1


def come_to_step(program, ground, tiles, limit):
    fault = fault_of(program, tiles)
    if fault != NO_FAULT:
        return end_with(program, [AT_FAULT, fault])
    if program.step().kind == END:
        return end_with(program, [CAME_TO_END])
    if program.step().is_move():
        return move_rows(program, ground, tiles, limit)
    if program.paid == limit:
        return [PAUSES]
    if program.step().kind < SET:
        do_tile_step(program, tiles)
    else:
        do_number_step(program)
    program.at = step_behind(program)
    program.paid += 1
    return None


def run_program(program, ground, tiles, rows):
    limit = program.paid + rows
    answer = program.ended
    while answer is None:
        answer = come_to_step(program, ground, tiles, limit)
    return answer
