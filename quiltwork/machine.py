"""The machine: calls are read from a list, done one by one, and answered."""

from quiltwork.dots import ROW_LENGTH, dot_row, is_row_dot
from quiltwork.dry import dry_run
from quiltwork.ground import PAGES, WRITABLE, Ground, lies_in_ground
from quiltwork.jobs import job_of
from quiltwork.plans import planned
from quiltwork.products import product_row
from quiltwork.programs import is_program, program_of
from quiltwork.reader import Reader, parts_of
from quiltwork.runs import run_program
from quiltwork.shapes import TILES, is_shape
from quiltwork.tiles import Tiles
from quiltwork.weaving import Cloth, unweave, weave

DONE = 0
NOT_ENDED = 1
REFUSED = -1
NO_SHAPE_REFUSED = -2
RANGE_REFUSED = -3
NO_PROGRAM = -9


class Machine:
    def __init__(self):
        self.ground = Ground()
        self.tiles = Tiles()
        self.program = None


def counted(numbers):
    return [len(numbers)] + numbers


def counted_in_range(numbers):
    return [RANGE_REFUSED] if numbers is None else counted(numbers)


def call_page(machine, reader):
    page = reader.take_number()
    how = reader.take_number()
    if page >= PAGES or how > WRITABLE:
        return [REFUSED]
    machine.ground.pages[page] = how
    return [DONE]


def call_put(machine, reader):
    place = reader.take_number()
    data = reader.take_row()
    if not lies_in_ground(place, len(data)):
        return [REFUSED]
    machine.ground.write(place, data)
    return [DONE]


def call_get(machine, reader):
    place = reader.take_number()
    length = reader.take_number()
    if not lies_in_ground(place, length):
        return [REFUSED]
    return counted(machine.ground.read(place, length))


def call_shape(machine, reader):
    numbers = reader.take_row()
    if not is_shape(numbers):
        return [NO_SHAPE_REFUSED]
    machine.tiles.set_shape(numbers)
    return [DONE]


def call_shown(machine, reader):
    return [DONE] + machine.tiles.shown()


def call_tile(machine, reader):
    t = reader.take_number()
    if t >= TILES:
        return [REFUSED]
    tiles = machine.tiles
    return [tiles.heights[t], tiles.widths[t]] + tiles.contents(t)


def call_start(machine, reader):
    steps = reader.take_row()
    shapes = reader.take_row()
    if not is_program(steps, shapes):
        return [REFUSED]
    machine.program = program_of(steps, shapes)
    return [len(machine.program.steps)]


def call_run(machine, reader):
    rows = reader.take_number()
    if machine.program is None:
        return [NO_PROGRAM]
    return run_program(machine.program, machine.ground, machine.tiles, rows)


def call_stand(machine, reader):
    program = machine.program
    if program is None:
        return [NO_PROGRAM]
    how = NOT_ENDED if program.ended is None else program.ended[0]
    return [how, program.at, program.paid, machine.tiles.start_row] + program.numbers


def call_dry(machine, reader):
    rows = reader.take_number()
    if machine.program is None:
        return [NO_PROGRAM]
    return dry_run(machine.program, machine.tiles, rows)


def call_plan(machine, reader):
    job = job_of(reader.take_row())
    if job is None:
        return [REFUSED]
    machine.program = planned(job)
    return [len(machine.program.steps)]


def call_product(machine, reader):
    i = reader.take_number()
    job = job_of(reader.take_row())
    if job is None or i >= job.m:
        return [REFUSED]
    return counted_in_range(product_row(job, machine.ground, i))


def take_cloth(reader):
    kind = reader.take_number()
    rows = reader.take_number()
    cols = reader.take_number()
    return Cloth(kind, rows, cols)


def call_weave(machine, reader):
    cloth = take_cloth(reader)
    data = reader.take_row()
    if not cloth.has_sizes() or len(data) != cloth.unwoven_length():
        return [REFUSED]
    return counted(weave(cloth, data))


def call_unweave(machine, reader):
    cloth = take_cloth(reader)
    data = reader.take_row()
    if not cloth.has_sizes() or len(data) != cloth.woven_length():
        return [REFUSED]
    return counted(unweave(cloth, data))


def call_dot(machine, reader):
    kind = reader.take_number()
    rows = reader.take_number()
    c = reader.take_row()
    a = reader.take_row()
    b = reader.take_row()
    if not is_row_dot(kind, rows, c, a, b):
        return [REFUSED]
    return counted_in_range(dot_row(kind, c, a, parts_of(b, ROW_LENGTH)))


CALLS = {
    1: call_page,
    2: call_put,
    3: call_get,
    4: call_shape,
    5: call_shown,
    6: call_tile,
    7: call_start,
    8: call_run,
    9: call_stand,
    10: call_dry,
    11: call_plan,
    12: call_product,
    13: call_weave,
    14: call_unweave,
    15: call_dot,
}


def answers(calls):
    machine = Machine()
    reader = Reader(calls)
    given = []
    while reader.has_more():
        answer = CALLS[reader.take_number()](machine, reader)
        given.append(len(answer))
        given.extend(answer)
    return given
