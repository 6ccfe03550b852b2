"""Weaving: groups of rows become one, in which each column's units stand one behind another."""

from quiltwork.dots import PAIRS_KIND

MOST_ROWS = 64
MOST_COLUMNS = 64
# So many bytes a group has in every kind: four units of one, or two of two.
GROUP_LENGTH = 4


def unit_length(kind):
    return 2 if kind == PAIRS_KIND else 1


def group_rows(kind):
    return GROUP_LENGTH // unit_length(kind)


class Cloth:
    def __init__(self, kind, rows, cols):
        self.kind = kind
        self.rows = rows
        self.cols = cols

    def has_sizes(self):
        return self.kind <= PAIRS_KIND and 1 <= self.rows <= MOST_ROWS and 1 <= self.cols <= MOST_COLUMNS

    def unwoven_length(self):
        return self.rows * self.cols * unit_length(self.kind)

    def woven_length(self):
        groups = -(-self.rows // group_rows(self.kind))
        return groups * self.cols * GROUP_LENGTH


# Where each woven byte, in order, stands unwoven; None past the last row.
def unwoven_places(cloth):
    unit = unit_length(cloth.kind)
    places = []
    for first in range(0, cloth.rows, group_rows(cloth.kind)):
        for j in range(cloth.cols):
            for q in range(GROUP_LENGTH):
                row = first + q // unit
                place = (row * cloth.cols + j) * unit + q % unit
                places.append(place if row < cloth.rows else None)
    return places


def weave(cloth, data):
    return [0 if place is None else data[place] for place in unwoven_places(cloth)]


def unweave(cloth, data):
    unwoven = [0] * cloth.unwoven_length()
    for place, value in zip(unwoven_places(cloth), data):
        if place is not None:
            unwoven[place] = value
    return unwoven
