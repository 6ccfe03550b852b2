"""What the tests share: calls as lists, and answers taken apart."""

from fractions import Fraction
import struct

from quiltwork.machine import answers

TOP = 2 ** 64


def page(p, how):
    return [1, p, how]


def put(a, data):
    return [2, a, len(data)] + list(data)


def get(a, n):
    return [3, a, n]


def shape(numbers):
    return [4, len(numbers)] + list(numbers)


def shown():
    return [5]


def tile(t):
    return [6, t]


def start(steps, shapes=()):
    flat_steps = [number for step in steps for number in step]
    flat_shapes = [number for one in shapes for number in one]
    return [7, len(flat_steps)] + flat_steps + [len(flat_shapes)] + flat_shapes


def run(rows=4000):
    return [8, rows]


def stand():
    return [9]


def dry(rows=4000):
    return [10, rows]


def plan(job):
    return [11, len(job)] + list(job)


def product(i, job):
    return [12, i, len(job)] + list(job)


def weave(kind, rows, cols, data):
    return [13, kind, rows, cols, len(data)] + list(data)


def unweave(kind, rows, cols, data):
    return [14, kind, rows, cols, len(data)] + list(data)


def dot(kind, rows, c, a, b):
    return [15, kind, rows, len(c)] + list(c) + [len(a)] + list(a) + [len(b)] + list(b)


def split(given):
    """The answers, a list each, of what `answers` gave back."""
    parts = []
    at = 0
    while at < len(given):
        count = given[at]
        parts.append(given[at + 1:at + 1 + count])
        assert len(parts[-1]) == count > 0
        at += 1 + count
    return parts


def ask(*calls):
    parts = split(answers([number for call in calls for number in call]))
    assert len(parts) == len(calls)
    return parts


def last(*calls):
    return ask(*calls)[-1]


def make_shape(start_row=0, **sizes):
    """make_shape(2, t0=(width, height)) is a shape's 17 numbers."""
    widths = [0] * 8
    heights = [0] * 8
    for name, size in sizes.items():
        widths[int(name[1:])] = size[0]
        heights[int(name[1:])] = size[1]
    return [start_row] + widths + heights


def pattern(n, seed=0):
    """n bytes, no two near one another alike and none 0."""
    return [(seed + 7 * q + q // 251) % 251 + 1 for q in range(n)]


def words(data):
    return [int.from_bytes(bytes(data[q:q + 4]), "little") for q in range(0, len(data), 4)]


def word_bytes(numbers):
    return [byte for number in numbers for byte in number.to_bytes(4, "little")]


def half_bytes(numbers):
    return [byte for number in numbers for byte in number.to_bytes(2, "little")]


def single_bits(value):
    """The bits of a float that is a single."""
    return struct.unpack("<I", struct.pack("<f", value))[0]


def half_bits(value):
    bits = single_bits(value)
    assert bits % 65536 == 0
    return bits >> 16


def exact(bits):
    """The exact value of a single's bits."""
    return Fraction(struct.unpack("<f", struct.pack("<I", bits))[0])


def nearest(value):
    """The exact value of the single that is nearest to a fraction, the even one of two."""
    if value == 0:
        return Fraction(0)
    guess = single_bits(float(abs(value)))
    near = sorted(
        (abs(exact(bits) - abs(value)), bits % 2, bits) for bits in (guess - 1, guess, guess + 1)
    )
    size = exact(near[0][2])
    return size if value > 0 else -size


def single_of(value):
    return single_bits(float(value))


def pair_number(c, y, z_columns):
    """x(i, j) behind a dot of pairs, from its definition: y and z are halves, c is a single."""
    sums = [Fraction(0), Fraction(0)]
    for k in range(len(z_columns)):
        for q in (0, 1):
            product = exact(y[2 * k + q] << 16) * exact(z_columns[k][q] << 16)
            sums[q] = nearest(sums[q] + product)
    return single_of(nearest(exact(c) + nearest(sums[0] + sums[1])))


def dot_words(kind, x, y, z):
    """x's numbers behind a dot, from its definition: rows of numbers, of bytes, of bytes."""
    given = []
    for i in range(len(x)):
        row = []
        for j in range(len(x[i])):
            if kind == 4:
                y_halves = [y[i][2 * q] + 256 * y[i][2 * q + 1] for q in range(len(y[i]) // 2)]
                columns = [
                    [z_row[4 * j] + 256 * z_row[4 * j + 1], z_row[4 * j + 2] + 256 * z_row[4 * j + 3]]
                    for z_row in z
                ]
                row.append(pair_number(x[i][j], y_halves, columns))
            else:
                total = x[i][j]
                for k in range(len(z)):
                    for q in range(4):
                        a = y[i][4 * k + q]
                        b = z[k][4 * j + q]
                        a -= 256 if kind in (0, 1) and a > 127 else 0
                        b -= 256 if kind in (0, 2) and b > 127 else 0
                        total += a * b
                row.append(total % 2 ** 32)
        given.append(row)
    return given


def rows_of(data, width):
    return [data[q:q + width] for q in range(0, len(data), width)]
