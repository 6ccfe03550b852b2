"""Dry runs: what a run would come to, were all pages open and all numbers in range."""

from quiltwork.ground import pages_of_row
from quiltwork.runs import run_program
from quiltwork.tiles import Tiles


def with_pages(told, place, length):
    for page in pages_of_row(place, length):
        told |= 1 << page
    return told


# Stands in for the ground: no page is closed, nothing is kept but which pages are touched.
class Footprint:
    def __init__(self):
        self.moved = 0
        self.pages_read = 0
        self.pages_written = 0

    def first_closed(self, place, length, wanted):
        return None

    def read(self, place, length):
        self.moved += 1
        self.pages_read = with_pages(self.pages_read, place, length)
        return [0] * length

    def write(self, place, data):
        self.moved += 1
        self.pages_written = with_pages(self.pages_written, place, len(data))


# Stands in for the tiles: what they hold doesn't matter, so dots are only looked at for their fit.
class DryTiles(Tiles):
    def dot_is_in_range(self, kind, x, y, z):
        return True

    def add_dot(self, kind, x, y, z):
        self.start_row = 0


def dry_run(program, tiles, rows):
    twin = program.twin()
    footprint = Footprint()
    dry_tiles = DryTiles()
    dry_tiles.set_shape(tiles.shown())
    answer = run_program(twin, footprint, dry_tiles, rows)
    return answer + [twin.at, footprint.moved, footprint.pages_read, footprint.pages_written]
