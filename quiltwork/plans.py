"""Plans: the program that makes a job's product, block by block."""

from quiltwork.jobs import DOT_DEPTH
from quiltwork.programs import END, FIRST_DOT, LOAD, SET, SHAPE, STORE, Program, Step
from quiltwork.shapes import TILES

BLOCK_ROWS = 16
BLOCK_COLUMNS = 16

# r0 is 0 all along; the strides of A, B and C are held by those behind it.
ZERO_NUMBER = 0
A_STRIDE = 1
B_STRIDE = 2
C_STRIDE = 3

# The tiles: C's block; A's and B's of a whole depth; A's and B's of the depth that is left.
C_TILE = 0
WHOLE_A = 1
WHOLE_B = 2
LEFT_A = 3
LEFT_B = 4


class Block:
    def __init__(self, job, row, column):
        self.job = job
        self.row = row
        self.column = column
        self.height = min(BLOCK_ROWS, job.m - row)
        self.width = 4 * min(BLOCK_COLUMNS, job.n - column)


def blocks_of(job):
    blocks = []
    for row in range(0, job.m, BLOCK_ROWS):
        for column in range(0, job.n, BLOCK_COLUMNS):
            blocks.append(Block(job, row, column))
    return blocks


def move_of_c(block, kind):
    place = block.job.c.place_of_row(block.row) + 4 * block.column
    return Step(kind, C_TILE, ZERO_NUMBER, C_STRIDE, place)


def dot_steps(block, turn, a_tile, b_tile):
    job = block.job
    first = DOT_DEPTH * turn
    return [
        Step(LOAD, a_tile, ZERO_NUMBER, A_STRIDE, job.a.place_of_row(block.row) + 4 * first),
        Step(LOAD, b_tile, ZERO_NUMBER, B_STRIDE, job.b.place_of_row(first) + 4 * block.column),
        Step(FIRST_DOT + job.kind, C_TILE, a_tile, b_tile, 0),
    ]


def block_steps(block, number):
    steps = [Step(SHAPE, 0, 0, 0, number), move_of_c(block, LOAD)]
    whole = block.job.depth // DOT_DEPTH
    for turn in range(whole):
        steps.extend(dot_steps(block, turn, WHOLE_A, WHOLE_B))
    if block.job.depth % DOT_DEPTH != 0:
        steps.extend(dot_steps(block, whole, LEFT_A, LEFT_B))
    steps.append(move_of_c(block, STORE))
    return steps


def block_sizes(block):
    depth = block.job.depth
    left = depth % DOT_DEPTH
    sizes = [(0, 0)] * TILES
    sizes[C_TILE] = (block.width, block.height)
    if depth >= DOT_DEPTH:
        sizes[WHOLE_A] = (4 * DOT_DEPTH, block.height)
        sizes[WHOLE_B] = (block.width, DOT_DEPTH)
    if left != 0:
        sizes[LEFT_A] = (4 * left, block.height)
        sizes[LEFT_B] = (block.width, left)
    return sizes


def block_shape(block):
    sizes = block_sizes(block)
    return [0] + [size[0] for size in sizes] + [size[1] for size in sizes]


def planned(job):
    blocks = blocks_of(job)
    steps = [
        Step(SET, A_STRIDE, 0, 0, job.a.stride),
        Step(SET, B_STRIDE, 0, 0, job.b.stride),
        Step(SET, C_STRIDE, 0, 0, job.c.stride),
    ]
    for number, block in enumerate(blocks):
        steps.extend(block_steps(block, number))
    steps.append(Step(END, 0, 0, 0, 0))
    return Program(steps, [block_shape(block) for block in blocks])
