"""The document told over once more, in all of Python and without care for speed.

It answers a line of calls, given as tuples, so that what the program answers can be
compared. It shares nothing with the program but what it's meant to do.
"""

import copy

from support import dot_words, exact, words, word_bytes

TOP = 2 ** 64
GROUND = 16384


def in_range(bits, low, high):
    """Whether a single's bits are a zero or a size from low on below high."""
    if bits % 2 ** 31 == 0:
        return True
    if bits % 2 ** 31 >= 255 << 23:
        return False
    return low <= abs(exact(bits)) < high


def halves(data):
    return [data[q] + 256 * data[q + 1] for q in range(0, len(data), 2)]


def all_in_range(x, y, z):
    for row in y + z:
        for half in halves(row):
            if not in_range(half << 16, 2.0 ** -40, 2.0 ** 41):
                return False
    return all(in_range(word, 2.0 ** -100, 2.0 ** 101) for row in x for word in row)


def shape_is_good(numbers):
    if len(numbers) != 17 or numbers[0] > 15:
        return False
    for width, height in zip(numbers[1:9], numbers[9:]):
        if width > 64 or height > 16 or (width == 0) is not (height == 0):
            return False
    return True


def job_is_good(job):
    if len(job) != 10:
        return False
    kind, m, n, k, a, b, c, a_by, b_by, c_by = job
    if kind > 4 or not 1 <= m <= 64 or not 1 <= n <= 64 or not 1 <= k <= 256 or k % (2 if kind == 4 else 4):
        return False
    depth = k // 2 if kind == 4 else k // 4
    a_end = a + (m - 1) * a_by + (2 * k if kind == 4 else k)
    b_end = b + (depth - 1) * b_by + 4 * n
    c_end = c + (m - 1) * c_by + 4 * n
    if max(a_end, b_end, c_end) > GROUND or (m > 1 and c_by < 4 * n):
        return False
    taken = set(range(c, c_end))
    return not taken & set(range(a, a_end)) and not taken & set(range(b, b_end))


def job_program(job):
    """The steps and shapes of a job, as the document tells them."""
    kind, m, n, k, a, b, c, a_by, b_by, c_by = job
    depth = k // 2 if kind == 4 else k // 4
    full, rest = depth // 16, depth % 16
    steps = [[11, 1, 0, 0, a_by], [11, 2, 0, 0, b_by], [11, 3, 0, 0, c_by]]
    shapes = []
    for i in range(0, m, 16):
        h = min(16, m - i)
        for q in range(0, n, 16):
            w = min(16, n - q)
            steps.append([1, 0, 0, 0, len(shapes)])
            steps.append([4, 0, 0, 3, c + i * c_by + 4 * q])
            for u in range(full):
                steps.append([4, 1, 0, 1, a + i * a_by + 64 * u])
                steps.append([4, 2, 0, 2, b + 16 * u * b_by + 4 * q])
                steps.append([6 + kind, 0, 1, 2, 0])
            if rest:
                steps.append([4, 3, 0, 1, a + i * a_by + 64 * full])
                steps.append([4, 4, 0, 2, b + 16 * full * b_by + 4 * q])
                steps.append([6 + kind, 0, 3, 4, 0])
            steps.append([5, 0, 0, 3, c + i * c_by + 4 * q])
            whole = (64, 4 * w, h, 16) if full else (0, 0, 0, 0)
            left = (4 * rest, 4 * w, h, rest) if rest else (0, 0, 0, 0)
            widths = [4 * w, whole[0], whole[1], left[0], left[1], 0, 0, 0]
            heights = [h, whole[2], whole[3], left[2], left[3], 0, 0, 0]
            shapes.append([0] + widths + heights)
    steps.append([0, 0, 0, 0, 0])
    return steps, shapes


def woven(kind, rows, cols, data):
    group, unit = (2, 2) if kind == 4 else (4, 1)
    table = [[data[(i * cols + j) * unit:(i * cols + j + 1) * unit] for j in range(cols)] for i in range(rows)]
    while len(table) % group:
        table.append([[0] * unit] * cols)
    given = []
    for i in range(len(table) // group):
        for j in range(cols):
            for q in range(group):
                given += table[group * i + q][j]
    return given


def unwoven(kind, rows, cols, data):
    group, unit = (2, 2) if kind == 4 else (4, 1)
    given = []
    for row in range(rows):
        for j in range(cols):
            at = ((row // group * cols + j) * group + row % group) * unit
            given += data[at:at + unit]
    return given


class Model:
    def __init__(self):
        self.ground = [0] * GROUND
        self.pages = [2] * 16
        self.set_shape([0] * 17)
        self.steps = None
        self.wet = True

    def set_shape(self, numbers):
        self.first = numbers[0]
        self.sizes = list(zip(numbers[1:9], numbers[9:]))
        self.tiles = [[[0] * width for i in range(height)] for width, height in self.sizes]

    def begin(self, steps, shapes):
        self.steps, self.shapes = steps, shapes
        self.at = self.paid = 0
        self.r = [0] * 8
        self.over = None
        return [len(steps)]

    def dot_fault(self, kind, x, y, z):
        if len({x, y, z}) < 3 or any(self.sizes[t][1] == 0 for t in (x, y, z)):
            return 3
        (xw, xh), (yw, yh), (zw, zh) = self.sizes[x], self.sizes[y], self.sizes[z]
        if xh != yh or xw != zw or xw % 4 or yw != 4 * zh:
            return 3
        x_words = [words(row) for row in self.tiles[x]]
        if kind == 4 and self.wet and not all_in_range(x_words, self.tiles[y], self.tiles[z]):
            return 5
        return 0

    def step_fault(self):
        if self.at >= len(self.steps):
            return 1
        kind, x, y, z, v = self.steps[self.at]
        if kind > 14 or x > 7 or y > 7 or z > 7 or (kind == 1 and v >= len(self.shapes)):
            return 1
        if kind == 1 and not shape_is_good(self.shapes[v]):
            return 2
        if kind in (3, 4, 5) and self.sizes[x][1] == 0:
            return 3
        return self.dot_fault(kind - 6, x, y, z) if 6 <= kind <= 10 else 0

    def move(self, left):
        """One row of a load or store: what the run answers, or None."""
        kind, x, y, z, v = self.steps[self.at]
        width, height = self.sizes[x]
        place = (self.r[y] + v + self.first * self.r[z]) % TOP
        if place + width > GROUND:
            return [3, 4]
        if left == 0:
            return [1]
        touched = sorted({place // 1024, (place + width - 1) // 1024})
        for p in touched:
            if self.pages[p] < kind - 3:
                return [2, p, kind - 4]
        if kind == 4:
            self.tiles[x][self.first] = self.ground[place:place + width]
            self.was_read.update(touched)
        else:
            self.ground[place:place + width] = self.tiles[x][self.first]
            self.was_written.update(touched)
        self.moved += 1
        self.first += 1
        return None

    def do(self):
        kind, x, y, z, v = self.steps[self.at]
        self.at += 1
        if kind <= 2:
            self.set_shape(self.shapes[v] if kind == 1 else [0] * 17)
        elif kind == 3:
            self.tiles[x] = [[0] * len(row) for row in self.tiles[x]]
            self.first = 0
        elif kind <= 10:
            if self.wet:
                x_words = [words(row) for row in self.tiles[x]]
                answer = dot_words(kind - 6, x_words, self.tiles[y], self.tiles[z])
                self.tiles[x] = [word_bytes(row) for row in answer]
            self.first = 0
        elif kind == 11:
            self.r[x] = v
        elif kind == 12:
            self.r[x] = (self.r[x] + v) % TOP
        elif kind == 13:
            self.r[x] = (self.r[y] + v) % TOP
        else:
            self.r[x] = (self.r[x] - 1) % TOP
            if self.r[x]:
                self.at = v

    def run(self, rows):
        left = rows
        self.moved, self.was_read, self.was_written = 0, set(), set()
        while self.over is None:
            fault = self.step_fault()
            if fault:
                self.over = [3, fault]
            elif self.steps[self.at][0] == 0:
                self.over = [0]
            elif self.steps[self.at][0] in (4, 5):
                if self.first >= self.sizes[self.steps[self.at][1]][1]:
                    self.first = 0
                    self.at += 1
                    continue
                answer = self.move(left)
                if answer is None:
                    left -= 1
                    self.paid += 1
                elif answer[0] == 3:
                    self.over = answer
                else:
                    return answer
            elif left == 0:
                return [1]
            else:
                self.do()
                left -= 1
                self.paid += 1
        return self.over

    def dry(self, rows):
        other = copy.deepcopy(self)
        other.pages = [2] * 16
        other.wet = False
        answer = other.run(rows)
        sums = [sum(2 ** p for p in pages) for pages in (other.was_read, other.was_written)]
        return answer + [other.at, other.moved] + sums

    def product(self, i, job):
        if not job_is_good(job) or i >= job[1]:
            return [-1]
        kind, m, n, k, a, b, c, a_by, b_by, c_by = job
        depth = k // 2 if kind == 4 else k // 4
        row = words(self.ground[c + i * c_by:][:4 * n])
        for first in range(0, depth, 16):
            many = min(16, depth - first)
            y = self.ground[a + i * a_by + 4 * first:][:4 * many]
            z = [self.ground[b + (first + q) * b_by:][:4 * n] for q in range(many)]
            if kind == 4 and not all_in_range([row], [y], z):
                return [-3]
            row = dot_words(kind, [row], [y], z)[0]
        return [n] + row

    def dot(self, kind, rows, c, a, b):
        if kind > 4 or not 1 <= rows <= 16 or (len(c), len(a), len(b)) != (16, 4 * rows, 64 * rows):
            return [-1]
        z = [b[64 * q:64 * q + 64] for q in range(rows)]
        if kind == 4 and not all_in_range([c], [a], z):
            return [-3]
        return [16] + dot_words(kind, [c], [a], z)[0]

    def weaving(self, how, kind, rows, cols, data):
        unit = 2 if kind == 4 else 1
        group = 4 // unit
        if kind > 4 or not 1 <= rows <= 64 or not 1 <= cols <= 64:
            return [-1]
        high = rows if how == 13 else (rows + group - 1) // group * group
        if len(data) != high * cols * unit:
            return [-1]
        given = (woven if how == 13 else unwoven)(kind, rows, cols, data)
        return [len(given)] + given

    def of_the_ground(self, number, args):
        if number == 1:
            p, how = args
            if p > 15 or how > 2:
                return [-1]
            self.pages[p] = how
            return [0]
        a = args[0]
        many = len(args[1]) if number == 2 else args[1]
        if a + many > GROUND:
            return [-1]
        if number == 2:
            self.ground[a:a + many] = args[1]
            return [0]
        return [many] + self.ground[a:a + many]

    def of_the_tiles(self, number, args):
        if number == 4:
            if not shape_is_good(args[0]):
                return [-2]
            self.set_shape(args[0])
            return [0]
        if number == 5:
            return [0, self.first] + [size[0] for size in self.sizes] + [size[1] for size in self.sizes]
        t = args[0]
        if t > 7:
            return [-1]
        return [self.sizes[t][1], self.sizes[t][0]] + [byte for row in self.tiles[t] for byte in row]

    def of_programs(self, number, args):
        if number == 7:
            steps, shapes = args
            if len(steps) % 5 or len(steps) > 5120 or len(shapes) % 17:
                return [-1]
            by_fives = [steps[q:q + 5] for q in range(0, len(steps), 5)]
            return self.begin(by_fives, [shapes[q:q + 17] for q in range(0, len(shapes), 17)])
        if number == 11:
            return self.begin(*job_program(args[0])) if job_is_good(args[0]) else [-1]
        if self.steps is None:
            return [-9]
        if number == 9:
            return [1 if self.over is None else self.over[0], self.at, self.paid, self.first] + self.r
        return self.run(args[0]) if number == 8 else self.dry(args[0])

    def call(self, number, *args):
        if number <= 3:
            return self.of_the_ground(number, args)
        if number <= 6:
            return self.of_the_tiles(number, args)
        if number <= 11:
            return self.of_programs(number, args)
        if number == 12:
            return self.product(*args)
        return self.dot(*args) if number == 15 else self.weaving(number, *args)


def flat(call):
    """A call as it stands in the list: its whole numbers, and each of its rows behind how many it has."""
    given = []
    for part in call:
        given += [len(part)] + list(part) if isinstance(part, (list, tuple)) else [part]
    return given


def model_answers(calls):
    """The answers, a list each, of a line of calls that are given as tuples."""
    model = Model()
    return [list(model.call(*call)) for call in calls]
