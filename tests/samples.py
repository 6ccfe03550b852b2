"""Programs, grounds and jobs that tests draw by chance, from a source with a fixed seed."""

from support import TOP, get, half_bytes, shown, stand, tile, word_bytes

END = [0, 0, 0, 0, 0]

# What is looked at behind a run: all that it can have changed.
LOOKS = [stand(), shown()] + [tile(t) for t in range(8)] + [get(0, 8192), get(8192, 8192)]


def number(source):
    return source.choice((0, 1, 4, 64, 100, 1000, 1020, TOP - 4, source.randrange(17000), source.randrange(TOP)))


def any_shape(source):
    widths, heights = [], []
    for t in range(8):
        there = source.randrange(6) > 0
        widths.append(source.choice((4, 8, 12, 64, source.randrange(1, 65))) if there else 0)
        heights.append(source.choice((1, 2, 3, 16)) if there else 0)
    return [source.choice((0, 0, 0, 1, 7, 15))] + widths + heights


def fitting_shape(source):
    """A shape in which dots of 0, 1, 2 fit."""
    height, count, depth = source.randrange(1, 5), source.randrange(1, 4), source.randrange(1, 4)
    given = any_shape(source)
    for t, size in enumerate(((4 * count, height), (4 * depth, height), (4 * count, depth))):
        given[1 + t], given[9 + t] = size
    return given


def any_step(source, count):
    kind = source.choice((1, 2, 3, 4, 4, 4, 4, 5, 5, 5, 6, 7, 8, 9, 10, 11, 11, 12, 12, 13, 14))
    if kind == 2 and source.randrange(4) > 0:
        kind = 1
    if kind == 1:
        return [1, 0, 0, 0, source.randrange(3)]
    if kind in (4, 5):
        return [kind, source.randrange(5), source.randrange(3), source.randrange(3, 5), source.randrange(0, 14000)]
    if kind in (6, 7, 8, 9, 10):
        return [kind, 0, 1, 2, 0]
    if kind == 14:
        return [14, source.randrange(5, 8), 0, 0, source.randrange(count)]
    if kind == 3:
        return [3, source.randrange(3), 0, 0, 0]
    x = source.randrange(8)
    small = source.choice((0, 1, 2, 3, 64, 100))
    return [kind, x, source.randrange(8), 0, number(source) if source.randrange(10) == 0 else small]


def any_program(source):
    count = source.randrange(4, 40)
    shapes = [fitting_shape(source) for q in range(3)]
    steps = [[1, 0, 0, 0, 0]] + [any_step(source, count) for q in range(count)] + [END]
    return steps, shapes


def any_ground(source):
    """Bytes that are often zeros, or halves near 1, so that dots of pairs are often in range."""
    data = []
    while len(data) < 8192:
        if source.randrange(2):
            data += [0] * 16
        else:
            data += [source.randrange(256), source.choice((63, 64, 191))] * 8
    return data[:8192]


def any_half(source):
    """A half in range: often near 1, at times at an edge or a zero."""
    exponent = source.choice((0, 87, 167, 120, 126, 127, 127, 127, 128, 130, source.randrange(87, 168)))
    sign = source.choice((0, 0x8000))
    return sign + (exponent << 7) + source.randrange(128) if exponent else sign


def any_halves(source, count):
    """Bytes of so many halves in range."""
    return half_bytes([any_half(source) for q in range(count)])


def any_single(source):
    """A single in range."""
    exponent = source.choice((0, 27, 227, 127, source.randrange(27, 228)))
    sign = source.choice((0, 2 ** 31))
    return sign + (exponent << 23) + source.randrange(1 << 23) if exponent else sign


def job_depth(kind, k):
    return k // 2 if kind == 4 else k // 4


def any_job(source, kind=None, most=20):
    """A job that can be done: its matrices lie one behind another, in any order, with room or without."""
    if kind is None:
        kind = source.randrange(5)
    step = 2 if kind == 4 else 4
    m, n = source.choice((1, 2, 15, 16, 17, most)), source.choice((1, 3, 16, 17, most))
    k = step * source.choice((1, 2, 15, 16, 17, 32, source.randrange(1, 41)))
    depth = job_depth(kind, k)
    sizes = {"a": (m, 4 * depth), "b": (depth, 4 * n), "c": (m, 4 * n)}
    places, strides = {}, {}
    at = source.choice((0, 0, 5, 1000))
    for name in source.sample("abc", 3):
        height, width = sizes[name]
        strides[name] = width + source.choice((0, 0, 1, 4, 7))
        if name != "c":
            strides[name] = source.choice((strides[name], strides[name], 0, width // 2))
        places[name] = at
        at += (height - 1) * strides[name] + width + source.choice((0, 0, 3))
    job = [kind, m, n, k] + [places[name] for name in "abc"] + [strides[name] for name in "abc"]
    return job if at <= 16384 else any_job(source, kind, most)


def ground_for(source, job):
    """Bytes of a ground on which a job of pairs takes numbers in range at first (its rows may overlap, though)."""
    ground = [source.randrange(256) for q in range(16384)]
    if job[0] == 4:
        kind, m, n, k, a, b, c, a_by, b_by, c_by = job
        depth = job_depth(kind, k)
        for place, by, height, width in ((a, a_by, m, 4 * depth), (b, b_by, depth, 4 * n)):
            for i in range(height):
                ground[place + i * by:place + i * by + width] = any_halves(source, width // 2)
        for i in range(m):
            ground[c + i * c_by:c + i * c_by + 4 * n] = word_bytes([any_single(source) for j in range(n)])
    return ground
