"""The machine: calls are read from a list, done one by one, and answered."""

from quiltwork.ground import PAGES, WRITABLE, Ground, lies_in_ground
from quiltwork.programs import Program, is_program
from quiltwork.reader import Reader
from quiltwork.runs import run_program
from quiltwork.shapes import TILES, is_shape
from quiltwork.tiles import Tiles

DONE = 0
REFUSED = -1
NO_SHAPE_REFUSED = -2
NO_PROGRAM = -9


class Machine:
    def __init__(self):
        self.ground = Ground()
        self.tiles = Tiles()
        self.program = None


def call_page(machine, reader):
    page = reader.take_number()
    how = reader.take_number()
    if page >= PAGES or how > WRITABLE:
        return [REFUSED]
    machine.ground.pages[page] = how
    return [DONE]


def call_put(machine, reader):
    place = reader.take_number()
    data = reader.take_row()
    if not lies_in_ground(place, len(data)):
        return [REFUSED]
    machine.ground.write(place, data)
    return [DONE]


def call_get(machine, reader):
    place = reader.take_number()
    length = reader.take_number()
    if not lies_in_ground(place, length):
        return [REFUSED]
    return [length] + machine.ground.read(place, length)


def call_shape(machine, reader):
    numbers = reader.take_row()
    if not is_shape(numbers):
        return [NO_SHAPE_REFUSED]
    machine.tiles.set_shape(numbers)
    return [DONE]


def call_shown(machine, reader):
    return [DONE] + machine.tiles.shown()


def call_tile(machine, reader):
    t = reader.take_number()
    if t >= TILES:
        return [REFUSED]
    tiles = machine.tiles
    return [tiles.heights[t], tiles.widths[t]] + tiles.contents(t)


def call_start(machine, reader):
    steps = reader.take_row()
    shapes = reader.take_row()
    if not is_program(steps, shapes):
        return [REFUSED]
    machine.program = Program(steps, shapes)
    return [len(machine.program.steps)]


def call_run(machine, reader):
    rows = reader.take_number()
    if machine.program is None:
        return [NO_PROGRAM]
    return run_program(machine.program, machine.ground, machine.tiles, rows)


CALLS = {
    1: call_page,
    2: call_put,
    3: call_get,
    4: call_shape,
    5: call_shown,
    6: call_tile,
    7: call_start,
    8: call_run,
}


def answers(calls):
    machine = Machine()
    reader = Reader(calls)
    given = []
    while reader.has_more():
        answer = CALLS[reader.take_number()](machine, reader)
        given.append(len(answer))
        given.extend(answer)
    return given
