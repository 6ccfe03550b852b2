"""Shapes: seventeen numbers, the start row, the widths of eight tiles, their heights."""

TILES = 8
SHAPE_LENGTH = 17
MOST_START_ROW = 15
MOST_WIDTH = 64
MOST_HEIGHT = 16


def zero_shape():
    return [0] * SHAPE_LENGTH


def widths_in(shape):
    return shape[1:1 + TILES]


def heights_in(shape):
    return shape[1 + TILES:SHAPE_LENGTH]


def is_size(width, height):
    if width > MOST_WIDTH or height > MOST_HEIGHT:
        return False
    return (width == 0) == (height == 0)


def is_shape(numbers):
    if len(numbers) != SHAPE_LENGTH or numbers[0] > MOST_START_ROW:
        return False
    return all([is_size(width, height) for width, height in zip(widths_in(numbers), heights_in(numbers))])
