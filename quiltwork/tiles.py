"""The eight tiles, as the shape says that they are, and the start row."""

from quiltwork.dots import dot, dot_in_range, row_of, words_of
from quiltwork.shapes import heights_in, widths_in, zero_shape


def zero_rows(width, height):
    return [[0] * width for row in range(height)]


class Tiles:
    def __init__(self):
        self.start_row = 0
        self.widths = []
        self.heights = []
        self.rows = []
        self.set_shape(zero_shape())

    def set_shape(self, shape):
        self.start_row = shape[0]
        self.widths = widths_in(shape)
        self.heights = heights_in(shape)
        self.rows = [zero_rows(width, height) for width, height in zip(self.widths, self.heights)]

    def shown(self):
        return [self.start_row] + self.widths + self.heights

    def is_there(self, t):
        return self.heights[t] != 0

    def contents(self, t):
        data = []
        for row in self.rows[t]:
            data.extend(row)
        return data

    def zero(self, t):
        self.rows[t] = zero_rows(self.widths[t], self.heights[t])
        self.start_row = 0

    def dot_fits(self, x, y, z):
        if x == y or x == z or y == z:
            return False
        if not self.is_there(x) or not self.is_there(y) or not self.is_there(z):
            return False
        if self.heights[x] != self.heights[y] or self.widths[x] != self.widths[z]:
            return False
        return self.widths[x] % 4 == 0 and self.widths[y] == 4 * self.heights[z]

    def words(self, t):
        return [words_of(row) for row in self.rows[t]]

    def dot_is_in_range(self, kind, x, y, z):
        return dot_in_range(kind, self.words(x), self.rows[y], self.rows[z])

    def add_dot(self, kind, x, y, z):
        words = dot(kind, self.words(x), self.rows[y], self.rows[z])
        self.rows[x] = [row_of(row) for row in words]
        self.start_row = 0
