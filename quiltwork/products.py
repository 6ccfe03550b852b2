"""Products: what a job makes of C, row by row, on the ground as it is."""

from quiltwork.dots import dot_row, words_of
from quiltwork.jobs import DOT_DEPTH


def matrix_row(matrix, ground, i):
    return ground.read(matrix.place_of_row(i), matrix.width)


# None is answered if a number that a dot takes isn't in range.
def product_row(job, ground, i):
    words = words_of(matrix_row(job.c, ground, i))
    a_row = matrix_row(job.a, ground, i)
    b_rows = [matrix_row(job.b, ground, k) for k in range(job.depth)]
    for first in range(0, job.depth, DOT_DEPTH):
        behind = first + DOT_DEPTH
        words = dot_row(job.kind, words, a_row[4 * first:4 * behind], b_rows[first:behind])
        if words is None:
            return None
    return words
