"""The call plan: a job's program, step by step, and that it makes the product on any ground (P4)."""

import random
import unittest

from model import job_program
from quiltwork.jobs import job_of
from quiltwork.plans import planned
from samples import LOOKS, any_job, ground_for
from support import ask, dry, get, last, make_shape, page, plan, product, put, run, shape, shown, stand, start
from support import tile, weave, word_bytes

END = [0, 0, 0, 0, 0]
SMALL = [1, 2, 3, 8, 100, 200, 300, 10, 20, 30]


def puts_of(ground):
    return [put(0, ground[:8192]), put(8192, ground[8192:])]


def steps_of(job):
    return [[step.kind, step.x, step.y, step.z, step.v] for step in planned(job_of(job)).steps]


class Steps(unittest.TestCase):
    def test_of_a_small_job(self):
        wanted = [
            [11, 1, 0, 0, 10], [11, 2, 0, 0, 20], [11, 3, 0, 0, 30], [1, 0, 0, 0, 0], [4, 0, 0, 3, 300],
            [4, 3, 0, 1, 100], [4, 4, 0, 2, 200], [7, 0, 3, 4, 0], [5, 0, 0, 3, 300], END,
        ]
        self.assertEqual(steps_of(SMALL), wanted)
        self.assertEqual(planned(job_of(SMALL)).shapes, [make_shape(t0=(12, 2), t3=(8, 2), t4=(12, 2))])
        self.assertEqual(last(plan(SMALL)), [10])

    def test_of_a_whole_depth(self):
        job = [0, 1, 1, 64, 0, 100, 300, 5, 4, 6]
        wanted = [
            [11, 1, 0, 0, 5], [11, 2, 0, 0, 4], [11, 3, 0, 0, 6], [1, 0, 0, 0, 0], [4, 0, 0, 3, 300],
            [4, 1, 0, 1, 0], [4, 2, 0, 2, 100], [6, 0, 1, 2, 0], [5, 0, 0, 3, 300], END,
        ]
        self.assertEqual(steps_of(job), wanted)
        self.assertEqual(planned(job_of(job)).shapes, [make_shape(t0=(4, 1), t1=(64, 1), t2=(4, 16))])

    def test_of_a_depth_and_a_rest(self):
        # 2 k bytes a row of A, 33 rows of B: two whole depths and one row.
        job = [4, 1, 2, 66, 1000, 2000, 4000, 7, 50, 9]
        wanted = [
            [11, 1, 0, 0, 7], [11, 2, 0, 0, 50], [11, 3, 0, 0, 9], [1, 0, 0, 0, 0], [4, 0, 0, 3, 4000],
            [4, 1, 0, 1, 1000], [4, 2, 0, 2, 2000], [10, 0, 1, 2, 0],
            [4, 1, 0, 1, 1064], [4, 2, 0, 2, 2800], [10, 0, 1, 2, 0],
            [4, 3, 0, 1, 1128], [4, 4, 0, 2, 3600], [10, 0, 3, 4, 0], [5, 0, 0, 3, 4000], END,
        ]
        self.assertEqual(steps_of(job), wanted)
        sizes = make_shape(t0=(8, 1), t1=(64, 1), t2=(8, 16), t3=(4, 1), t4=(8, 1))
        self.assertEqual(planned(job_of(job)).shapes, [sizes])

    def test_of_several_blocks(self):
        # Rows 0 to 15 and 16 with columns 0 to 15 and 16, in this order.
        job = [2, 17, 17, 4, 0, 200, 1000, 8, 0, 70]
        wanted = [[11, 1, 0, 0, 8], [11, 2, 0, 0, 0], [11, 3, 0, 0, 70]]
        for number, c, a, b in ((0, 1000, 0, 200), (1, 1064, 0, 264), (2, 2120, 128, 200), (3, 2184, 128, 264)):
            wanted += [[1, 0, 0, 0, number], [4, 0, 0, 3, c], [4, 3, 0, 1, a], [4, 4, 0, 2, b], [8, 0, 3, 4, 0]]
            wanted += [[5, 0, 0, 3, c]]
        self.assertEqual(steps_of(job), wanted + [END])
        shapes = [
            make_shape(t0=(64, 16), t3=(4, 16), t4=(64, 1)), make_shape(t0=(4, 16), t3=(4, 16), t4=(4, 1)),
            make_shape(t0=(64, 1), t3=(4, 1), t4=(64, 1)), make_shape(t0=(4, 1), t3=(4, 1), t4=(4, 1)),
        ]
        self.assertEqual(planned(job_of(job)).shapes, shapes)

    def test_of_jobs_drawn_by_chance(self):
        source = random.Random(50)
        for turn in range(200):
            job = any_job(source, most=source.choice((20, 33, 64)))
            steps, shapes = job_program(job)
            self.assertEqual(steps_of(job), steps)
            self.assertEqual(planned(job_of(job)).shapes, shapes)
            self.assertEqual(last(plan(job)), [len(steps)])

    def test_how_many(self):
        self.assertEqual(last(plan([0, 64, 63, 4, 0, 0, 256, 4, 0, 252])), [4 + 16 * 6])
        self.assertEqual(last(plan([4, 1, 1, 256, 0, 1000, 2000, 0, 4, 0])), [4 + 3 + 24])
        self.assertEqual(last(plan([4, 16, 16, 254, 0, 1000, 15000, 4, 64, 64])), [4 + 3 + 24])


class Started(unittest.TestCase):
    def test_it_is_started(self):
        steps, shapes = job_program(SMALL)
        data = [q * 7 % 256 for q in range(400)]
        for rows in range(20):
            before = [put(0, data), shape(make_shape(2, t5=(3, 3))), start([[11, 0, 0, 0, 9], END]), run()]
            given = ask(*before, plan(SMALL), run(rows), *LOOKS)
            self.assertEqual(given, ask(*before, start(steps, shapes), run(rows), *LOOKS))

    def test_shape_and_tiles_stay(self):
        sizes = make_shape(t5=(3, 3))
        calls = [put(0, [1, 2, 3]), shape(sizes), start([[4, 5, 0, 0, 0], END]), run(1), plan(SMALL)]
        given = ask(*calls, shown(), tile(5), stand())[5:]
        self.assertEqual(given, [[0, 1] + sizes[1:], [3, 3, 1, 2, 3] + [0] * 6, [1, 0, 0, 1] + [0] * 8])

    def test_an_ended_run_is_started_anew(self):
        self.assertEqual(ask(plan(SMALL), run(), plan(SMALL), stand(), run())[1:], [[0], [10], [1] + [0] * 11, [0]])

    def test_the_ground_stays(self):
        data = [q % 256 for q in range(400)]
        self.assertEqual(last(put(0, data), plan(SMALL), get(0, 400)), [400] + data)


class Products(unittest.TestCase):
    """A planned program makes the product that the call product tells, and changes nothing else."""

    def wanted(self, ground, job):
        """The ground behind it; None if a number isn't in range."""
        kind, m, n, k, a, b, c, a_by, b_by, c_by = job
        ground = list(ground)
        told = []
        for first in range(0, m, 40):
            told += ask(*puts_of(ground), *[product(i, job) for i in range(first, min(first + 40, m))])[2:]
        if [-3] in told:
            return None
        for i in range(m):
            ground[c + i * c_by:c + i * c_by + 4 * n] = word_bytes(told[i][1:])
        return ground

    def behind(self, calls):
        given = ask(*calls, get(0, 8192), get(8192, 8192))
        return given[-2][1:] + given[-1][1:]

    def jobs(self, seed, count, kinds=(0, 1, 2, 3, 4)):
        source = random.Random(seed)
        for turn in range(count):
            job = any_job(source, kinds[turn % len(kinds)], most=20)
            ground = ground_for(source, job)
            wanted = self.wanted(ground, job)
            if wanted is not None:
                yield source, job, ground, wanted

    def test_run_to_its_end(self):
        kinds = {}
        for source, job, ground, wanted in self.jobs(60, 60):
            calls = puts_of(ground) + [plan(job), run()]
            self.assertEqual(ask(*calls)[-1], [0], job)
            self.assertEqual(self.behind(calls), wanted, job)
            kinds[job[0]] = kinds.get(job[0], 0) + 1
        self.assertEqual(sorted(kinds), [0, 1, 2, 3, 4])
        self.assertGreater(kinds[4], 2)

    def test_cut_by_chance(self):
        for source, job, ground, wanted in self.jobs(61, 20):
            pieces = [run(source.choice((0, 1, 2, 5, 17, 40, 100))) for q in range(40)] + [run()]
            calls = puts_of(ground) + [plan(job)] + pieces
            self.assertEqual(ask(*calls)[-1], [0])
            self.assertEqual(self.behind(calls), wanted)

    def test_cut_everywhere(self):
        job = [3, 2, 17, 68, 0, 500, 6000, 68, 68, 70]
        source = random.Random(62)
        ground = ground_for(source, job)
        wanted = self.wanted(ground, job)
        cost = last(*puts_of(ground), plan(job), run(), stand())[2]
        for rows in range(0, cost + 1):
            calls = puts_of(ground) + [plan(job), run(rows), run(cost - rows)]
            self.assertEqual(ask(*calls)[-1], [0])
            if rows % 5 == 0:
                self.assertEqual(self.behind(calls), wanted)

    def test_stopped_at_closed_pages(self):
        stops = 0
        for source, job, ground, wanted in self.jobs(63, 30):
            calls = puts_of(ground) + [page(p, source.choice((0, 0, 1, 2))) for p in range(16)] + [plan(job)]
            answer = ask(*calls, run())[-1]
            while answer[0] == 2:
                stops += 1
                calls += [run(), page(answer[1], 1 + answer[2])]
                answer = ask(*calls, run())[-1]
            self.assertEqual(answer, [0])
            self.assertEqual(self.behind(calls + [run()]), wanted)
        self.assertGreater(stops, 30)

    def test_with_other_tiles_before(self):
        for source, job, ground, wanted in self.jobs(64, 10):
            steps = [[4, 0, 0, 0, 3], [4, 1, 0, 0, 5], [11, 0, 0, 0, 99], [11, 1, 0, 0, 77]]
            sizes = [7] + [64] * 8 + [16] * 8
            calls = puts_of(ground) + [shape(sizes), start(steps), run(13), plan(job), run()]
            self.assertEqual(self.behind(calls), wanted)

    def test_the_pages_that_it_touches(self):
        for source, job, ground, wanted in self.jobs(65, 15):
            told = last(plan(job), dry())
            was_read, was_written = told[-2:]
            opened = [page(p, 2 if was_written >> p & 1 else was_read >> p & 1) for p in range(16)]
            calls = puts_of(ground) + opened + [plan(job), run()]
            self.assertEqual(ask(*calls)[-1], [0])
            self.assertEqual(self.behind(calls), wanted)
            # What's written are C's pages alone.
            kind, m, n, k, a, b, c, a_by, b_by, c_by = job
            places = [c + i * c_by + q for i in range(m) for q in range(4 * n)]
            self.assertEqual(was_written, sum(2 ** p for p in {place // 1024 for place in places}))

    def test_twice_adds_twice(self):
        job = [3, 1, 1, 4, 0, 4, 8, 0, 0, 0]
        calls = [put(0, [1, 2, 3, 4, 5, 6, 7, 8, 1, 0, 0, 0]), plan(job), run(), get(8, 4), plan(job), run(), get(8, 4)]
        self.assertEqual(ask(*calls)[3::3], [[4, 71, 0, 0, 0], [4, 141, 0, 0, 0]])

    def test_one_row_or_column_and_the_most_of_them(self):
        source = random.Random(66)
        for job in (
            [0, 1, 1, 4, 0, 4, 8, 0, 0, 0], [1, 64, 1, 100, 0, 6400, 6500, 100, 4, 4],
            [2, 1, 64, 100, 0, 6400, 100, 100, 256, 4], [3, 63, 64, 4, 0, 0, 256, 4, 0, 256],
            [4, 64, 1, 34, 0, 5000, 6000, 68, 4, 4], [4, 1, 64, 34, 0, 5000, 100, 68, 256, 4],
            [0, 1, 16, 256, 16128, 0, 16064, 0, 64, 0], [4, 3, 17, 256, 0, 1536, 16000, 512, 68, 68],
        ):
            ground = ground_for(source, job)
            wanted = self.wanted(ground, job)
            self.assertIsNotNone(wanted, job)
            calls = puts_of(ground) + [plan(job), run(4000), run(4000)]
            self.assertEqual(ask(*calls)[-1], [0])
            self.assertEqual(self.behind(calls), wanted, job)

    def test_woven_rows_of_b(self):
        # C = A times B, plainly, of signed bytes: B is woven by the call.
        source = random.Random(67)
        m, n, k = 3, 5, 12
        a = [[source.randrange(-128, 128) for q in range(k)] for i in range(m)]
        b = [[source.randrange(-128, 128) for j in range(n)] for q in range(k)]
        woven = last(weave(0, k, n, [value % 256 for row in b for value in row]))[1:]
        job = [0, m, n, k, 0, 100, 200, k, 4 * n, 4 * n]
        calls = [put(0, [value % 256 for row in a for value in row]), put(100, woven)]
        for i in range(m):
            wanted = [sum(a[i][q] * b[q][j] for q in range(k)) % 2 ** 32 for j in range(n)]
            self.assertEqual(last(*calls, product(i, job)), [n] + wanted)

    def test_numbers_that_are_not_in_range(self):
        # The block in which one stands is a fault; those before it are made.
        job = [4, 17, 1, 2, 0, 100, 200, 4, 4, 4]
        calls = [put(0, [0] * 64 + [1]), put(100, [0, 0, 128, 63]), put(0, [0, 0, 128, 63]), plan(job), run(), stand()]
        given = ask(*calls, get(200, 4))
        self.assertEqual(given[4], [3, 5])
        self.assertEqual(given[5][:2], [3, 3 + 6 + 4])
        self.assertEqual(given[6], [4, 0, 0, 128, 63])


class Cuts(unittest.TestCase):
    def test_planned_programs_cut_anywhere_stand_alike(self):
        source = random.Random(68)
        for turn in range(15):
            job = any_job(source, most=18)
            ground = ground_for(source, job)
            total = source.choice((3, 20, 77, 150, 400))
            first = source.randrange(total + 1)
            uncut = puts_of(ground) + [plan(job), run(total)] + LOOKS
            cut = puts_of(ground) + [plan(job), run(first), run(0), run(total - first)] + LOOKS
            self.assertEqual(ask(*uncut)[4:], ask(*cut)[6:])


if __name__ == "__main__":
    unittest.main()
