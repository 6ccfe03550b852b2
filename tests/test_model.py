"""Lines of all fifteen calls, drawn by chance, are answered as the document told over once more does."""

import random
import unittest

from model import flat, model_answers
from quiltwork.machine import answers
from samples import any_ground, any_halves, any_job, any_program, any_shape, any_single, job_depth
from support import split, word_bytes

MOST = 2 ** 32 - 1


def spoiled(source, numbers):
    """The same with one number that is another, or with one more or less."""
    numbers = list(numbers)
    turn = source.randrange(8)
    if turn == 0:
        return numbers[:-1]
    if turn == 1:
        return numbers + [source.randrange(3)]
    q = source.randrange(len(numbers))
    numbers[q] = source.choice((0, 1, 17, 65, 257, 16384, MOST, abs(numbers[q] - 1), numbers[q] + 1, numbers[q] + 2))
    return numbers


def some_bytes(source, count):
    kind = source.randrange(4)
    if kind == 0:
        return [source.randrange(256) for q in range(count)]
    if kind == 1:
        return [source.choice((0, 127, 128, 255)) for q in range(count)]
    return (any_halves(source, count // 2) + [0])[:count]


def page_call(source):
    return (1, source.choice((source.randrange(16), source.randrange(16), 16)), source.choice((0, 1, 2, 2, 2, 3)))


def put_call(source):
    place = source.choice((0, 1, 1000, 16000, 16384, source.randrange(17000)))
    return (2, place, some_bytes(source, source.choice((0, 4, 300))))


def get_call(source):
    return (3, source.choice((0, 8192, source.randrange(17000))), source.choice((0, 1, 1024, 8192)))


def shape_call(source):
    numbers = any_shape(source)
    return (4, spoiled(source, numbers) if source.randrange(4) == 0 else numbers)


def start_call(source):
    steps, shapes = any_program(source)
    steps = [number for step in steps for number in step]
    shapes = [number for one in shapes for number in one]
    turn = source.randrange(6)
    if turn == 0:
        steps = spoiled(source, steps)
    if turn == 1:
        shapes = spoiled(source, shapes)
    return (7, steps, shapes)


def rows_of_a_run(source):
    return source.choice((0, 1, 2, 3, 10, 40, 200))


def a_job(source, jobs):
    job = source.choice(jobs)
    return spoiled(source, job) if source.randrange(4) == 0 else job


def product_call(source, jobs):
    job = a_job(source, jobs)
    most = job[1] if len(job) > 1 else 1
    return (12, source.choice((0, max(most - 1, 0), most, source.randrange(20))), job)


def weaving_call(source, number):
    kind, rows = source.choice((0, 1, 2, 3, 4, 4, 5)), source.randrange(0, 12)
    cols = source.choice((0, 1, 3, 7, 64, 65))
    unit = 2 if kind == 4 else 1
    group = 4 // unit
    high = rows if number == 13 else -(-rows // group) * group
    count = high * cols * unit + source.choice((0, 0, 0, 0, 0, 0, 1, unit))
    return (number, kind, rows, cols, some_bytes(source, count))


def dot_call(source):
    kind, rows = source.choice((0, 1, 2, 3, 4, 4, 5)), source.choice((0, 1, 2, 15, 16, 17))
    c = [any_single(source) for q in range(16)]
    a, b = any_halves(source, 2 * rows), any_halves(source, 32 * rows)
    turn = source.randrange(10)
    if turn == 0:
        c = spoiled(source, c)
    if turn == 1 and rows:
        a[source.randrange(len(a))] = source.randrange(256)
    if turn == 2 and rows:
        b[source.randrange(len(b))] = source.randrange(256)
    if turn == 3:
        a = a[1:]
    if turn == 4:
        b = b + [0]
    return (15, kind, rows, c, a, b)


def any_call(source, jobs):
    number = source.choice((1, 2, 3, 4, 5, 6, 7, 8, 8, 8, 9, 9, 10, 10, 11, 12, 13, 14, 15))
    if number in (8, 10):
        return (number, rows_of_a_run(source))
    if number in (5, 9):
        return (number,)
    if number == 6:
        return (6, source.randrange(9))
    if number == 11:
        return (11, a_job(source, jobs))
    if number == 12:
        return product_call(source, jobs)
    if number in (13, 14):
        return weaving_call(source, number)
    return {1: page_call, 2: put_call, 3: get_call, 4: shape_call, 7: start_call, 15: dot_call}[number](source)


def any_line(source):
    jobs = [any_job(source, most=18) for q in range(2)]
    calls = [any_call(source, jobs) for q in range(source.randrange(1, 30))]
    if source.randrange(4):
        calls.insert(0, (2, 0, any_ground(source)[:source.choice((1000, 4000))]))
    return calls


class Lines(unittest.TestCase):
    def compare(self, calls):
        given = split(answers([number for call in calls for number in flat(call)]))
        wanted = model_answers(calls)
        for call, one, other in zip(calls, given, wanted):
            self.assertEqual(one, other, call)
        self.assertEqual(len(given), len(wanted))
        return given

    def test_lines_drawn_by_chance(self):
        source = random.Random(15)
        met = {}
        for turn in range(400):
            calls = any_line(source)
            for call, one in zip(calls, self.compare(calls)):
                met[call[0], min(one[0], 3)] = True
        # All calls are met, and each of their refusals.
        for number in range(1, 16):
            self.assertTrue(any(key[0] == number and key[1] >= 0 for key in met), number)
        for key in ((1, -1), (2, -1), (3, -1), (4, -2), (6, -1), (7, -1), (8, -9), (9, -9), (10, -9)):
            self.assertIn(key, met)
        for key in ((11, -1), (12, -1), (12, -3), (13, -1), (14, -1), (15, -1), (15, -3)):
            self.assertIn(key, met)

    def test_planned_programs_cut_and_stopped(self):
        source = random.Random(16)
        for turn in range(25):
            job = any_job(source, most=18)
            data = word_bytes([any_single(source) for q in range(2000)])
            if job[0] == 4:
                depth = job_depth(job[0], job[3])
                for place, by, height, width in (
                    (job[4], job[7], job[1], 4 * depth), (job[5], job[8], depth, 4 * job[2]),
                ):
                    behind = min(place + (height - 1) * by + width, len(data))
                    data[place:behind] = any_halves(source, len(data))[:behind - place]
            calls = [(2, 0, data), (11, job)] + [(1, source.randrange(16), source.randrange(3)) for q in range(3)]
            for again in range(15):
                runs = ((8, source.randrange(60)), (9,), (10, source.randrange(300)))
                calls.append(source.choice(runs + (page_call(source),)))
            calls += [(9,), (5,), (6, 0), (3, 0, 8192)]
            self.compare(calls)

    def test_any_call_may_be_the_first(self):
        for call in (
            (1, 0, 0), (2, 0, [1]), (3, 0, 1), (4, [0] * 17), (5,), (6, 0), (7, [0] * 5, []), (8, 1), (9,), (10, 1),
            (11, [0, 1, 1, 4, 0, 4, 8, 0, 0, 0]), (12, 0, [0, 1, 1, 4, 0, 4, 8, 0, 0, 0]), (13, 0, 1, 1, [7]),
            (14, 0, 1, 1, [7, 0, 0, 0]), (15, 0, 1, [0] * 16, [1] * 4, [1] * 64),
        ):
            self.compare([call])
            self.compare([call, call])


if __name__ == "__main__":
    unittest.main()
