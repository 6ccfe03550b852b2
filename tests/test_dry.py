"""The call dry tells what comes (P3), and changes nothing."""

import random
import unittest

from samples import LOOKS, any_ground, any_program
from support import TOP, ask, dry, half_bytes, last, make_shape, page, pattern, put, run, shape, stand, start
from support import word_bytes

END = [0, 0, 0, 0, 0]
CLOSED = [page(p, 0) for p in range(16)]


class Answers(unittest.TestCase):
    def test_no_program(self):
        self.assertEqual(ask(dry(0), dry(4000)), [[-9], [-9]])

    def test_the_end(self):
        self.assertEqual(last(start([END]), dry(0)), [0, 0, 0, 0, 0])
        self.assertEqual(last(start([[11, 0, 0, 0, 0], END]), dry(1)), [0, 1, 0, 0, 0])

    def test_a_pause(self):
        self.assertEqual(last(start([[11, 0, 0, 0, 0], END]), dry(0)), [1, 0, 0, 0, 0])
        calls = [shape(make_shape(t0=(4, 3))), start([[4, 0, 0, 0, 0], [5, 0, 0, 0, 2000], END])]
        wanted = [
            [1, 0, 0, 0, 0], [1, 0, 1, 1, 0], [1, 0, 2, 1, 0], [1, 1, 3, 1, 0], [1, 1, 4, 1, 2], [1, 1, 5, 1, 2],
            [0, 2, 6, 1, 2], [0, 2, 6, 1, 2],
        ]
        for rows in range(8):
            self.assertEqual(last(*calls, dry(rows)), wanted[rows])

    def test_faults(self):
        self.assertEqual(last(start([]), dry(0)), [3, 1, 0, 0, 0, 0])
        self.assertEqual(last(start([[11, 0, 0, 0, 0]]), dry(1)), [3, 1, 1, 0, 0, 0])
        self.assertEqual(last(start([[1, 0, 0, 0, 0]], [make_shape(16)]), dry(0)), [3, 2, 0, 0, 0, 0])
        self.assertEqual(last(start([[2, 0, 0, 0, 0], [5, 0, 0, 0, 0]]), dry()), [3, 3, 1, 0, 0, 0])
        self.assertEqual(last(start([[14, 0, 0, 0, TOP - 1]]), dry()), [3, 1, TOP - 1, 0, 0, 0])

    def test_a_dot_that_does_not_fit(self):
        for kind in range(6, 11):
            calls = [shape(make_shape(t0=(4, 1), t1=(4, 1), t2=(8, 1))), start([[kind, 0, 1, 2, 0], END])]
            self.assertEqual(last(*calls, dry()), [3, 3, 0, 0, 0, 0])

    def test_a_row_outside_the_ground(self):
        calls = [shape(make_shape(t0=(8, 5))), start([[11, 1, 0, 0, 8], [4, 0, 0, 1, 16360], END])]
        self.assertEqual(last(*calls, dry()), [3, 4, 1, 3, 1 << 15, 0])
        self.assertEqual(last(*calls, dry(4)), [3, 4, 1, 3, 1 << 15, 0])
        self.assertEqual(last(*calls, dry(3)), [1, 1, 2, 1 << 15, 0])


class Pages(unittest.TestCase):
    def test_rows_in_two_pages(self):
        steps = [[11, 1, 0, 0, 4096], [4, 0, 0, 1, 1021], [5, 0, 0, 1, 1020], END]
        calls = [shape(make_shape(t0=(4, 2))), start(steps)]
        self.assertEqual(last(*calls, dry()), [0, 3, 4, 1 + 2 + 16 + 32, 1 + 16])

    def test_rows_that_just_reach_a_page_or_not(self):
        for place, pages in ((1020, 1), (1021, 3), (1023, 3), (1024, 2), (16380, 1 << 15), (15358, 3 << 14)):
            calls = [shape(make_shape(t0=(4, 1)))]
            self.assertEqual(last(*calls, start([[4, 0, 0, 0, place], END]), dry()), [0, 1, 1, pages, 0])
            self.assertEqual(last(*calls, start([[5, 0, 0, 0, place], END]), dry()), [0, 1, 1, 0, pages])

    def test_all_pages(self):
        calls = [shape(make_shape(t0=(1, 16))), start([[11, 1, 0, 0, 1024], [4, 0, 0, 1, 0], [5, 0, 0, 1, 1023], END])]
        self.assertEqual(last(*calls, dry()), [0, 3, 32, 65535, 65535])

    def test_pages_are_told_once(self):
        steps = [[11, 1, 0, 0, 9], [4, 0, 0, 0, 5000], [14, 1, 0, 0, 1], END]
        self.assertEqual(last(shape(make_shape(t0=(1, 2))), start(steps), dry()), [0, 3, 18, 16, 0])

    def test_pages_may_be_closed(self):
        steps = [[11, 1, 0, 0, 4096], [4, 0, 0, 1, 1021], [5, 0, 0, 1, 1020], END]
        calls = [shape(make_shape(t0=(4, 2))), start(steps)]
        self.assertEqual(last(*CLOSED, *calls, dry()), last(*calls, dry()))
        self.assertEqual(last(*calls, *[page(p, 1) for p in range(16)], dry()), last(*calls, dry()))

    def test_rows_that_are_not_done_are_not_told(self):
        # The start row is 3: rows 3 and 4 are left. It isn't below tile 1's height: none is left.
        sizes = make_shape(3, t0=(4, 5), t1=(4, 3))
        steps = [[11, 1, 0, 0, 1024], [4, 0, 0, 1, 0], END]
        self.assertEqual(last(shape(sizes), start(steps), dry()), [0, 2, 2, 8 + 16, 0])
        steps = [[11, 1, 0, 0, 1024], [4, 1, 0, 1, 0], END]
        self.assertEqual(last(shape(sizes), start(steps), dry(1)), [0, 2, 0, 0, 0])


class Ranges(unittest.TestCase):
    SIZES = make_shape(t0=(4, 1), t1=(4, 1), t2=(4, 1))
    STEPS = [[1, 0, 0, 0, 0], [4, 0, 0, 0, 0], [4, 1, 0, 0, 4], [4, 2, 0, 0, 8], [10, 0, 1, 2, 0], [5, 0, 0, 0, 0], END]

    def test_numbers_that_are_not_in_range(self):
        good = word_bytes([0]) + half_bytes([0] * 4)
        for q in (0, 4, 6, 8, 10):
            data = list(good)
            data[q] = 1
            calls = [put(0, data), start(self.STEPS, [self.SIZES])]
            self.assertEqual(ask(*calls, dry(), run(), stand())[2:4], [[0, 6, 4, 1, 1], [3, 5]])
            self.assertEqual(last(*calls, run(4), dry())[:3], [3, 5, 4])
            self.assertEqual(last(*calls, run(3), dry(1)), [1, 4, 1, 1, 0])
            self.assertEqual(last(*calls, run(3), dry(2)), [1, 5, 1, 1, 0])

    def test_numbers_in_a_tile_already(self):
        data = word_bytes([1]) + half_bytes([0] * 4)
        calls = [put(0, data), shape(self.SIZES), start(self.STEPS[1:4] + [END]), run(), start(self.STEPS[4:])]
        self.assertEqual(ask(*calls, dry(), dry(0), run())[5:], [[0, 2, 1, 0, 1], [1, 0, 0, 0, 0], [3, 5]])

    def test_it_does_not_hang_on_bytes(self):
        source = random.Random(3)
        for turn in range(60):
            program = start(*any_program(source))
            rows = source.choice((5, 40, 300))
            given = last(put(0, pattern(8000)), put(8000, [255] * 8000), program, dry(rows))
            self.assertEqual(given, last(program, dry(rows)))


class EndedAndStanding(unittest.TestCase):
    def test_a_run_that_has_ended(self):
        calls = [shape(make_shape(t0=(4, 2))), start([[4, 0, 0, 0, 0], END]), run()]
        given = ask(*calls, dry(0), dry(), shape([0] * 17), dry())[3:]
        self.assertEqual(given, [[0, 1, 0, 0, 0], [0, 1, 0, 0, 0], [0], [0, 1, 0, 0, 0]])

    def test_a_run_that_ended_with_a_fault(self):
        calls = [shape(make_shape(t0=(4, 2))), start([[4, 0, 0, 0, 0], [5, 1, 0, 0, 0]]), run()]
        given = ask(*calls, dry(0), shape(make_shape(t1=(1, 1))), dry())[2:]
        self.assertEqual(given, [[3, 3], [3, 3, 1, 0, 0, 0], [0], [3, 3, 1, 0, 0, 0]])

    def test_a_run_that_ended_with_fault_5(self):
        data = word_bytes([1]) + half_bytes([0] * 4)
        calls = [put(0, data), start(Ranges.STEPS, [Ranges.SIZES]), run()]
        given = ask(*calls, dry(), put(0, [0] * 8), dry())[2:]
        self.assertEqual(given, [[3, 5], [3, 5, 4, 0, 0, 0], [0], [3, 5, 4, 0, 0, 0]])

    def test_at_a_closed_page(self):
        calls = [page(1, 0), shape(make_shape(t0=(1, 4))), start([[11, 4, 0, 0, 512], [4, 0, 0, 4, 0], END]), run()]
        given = ask(*calls, dry(0), dry(1), dry(2), run())[3:]
        self.assertEqual(given, [[2, 1, 0], [1, 1, 0, 0, 0], [1, 1, 1, 2, 0], [0, 2, 2, 2, 0], [2, 1, 0]])

    def test_within_a_load(self):
        calls = [shape(make_shape(t0=(1, 4))), start([[11, 4, 0, 0, 1024], [4, 0, 0, 4, 0], [5, 0, 0, 4, 4096], END])]
        self.assertEqual(last(*calls, run(3), dry()), [0, 3, 6, 4 + 8, 16 + 32 + 64 + 128])
        self.assertEqual(last(*calls, run(3), dry(1)), [1, 1, 1, 4, 0])
        self.assertEqual(last(*calls, run(6), dry()), [0, 3, 3, 0, 32 + 64 + 128])

    def test_the_numbers_are_those_that_are_there(self):
        steps = [[11, 1, 0, 0, 2], [12, 2, 0, 0, 1024], [14, 1, 0, 0, 1], [4, 0, 2, 0, 0], END]
        calls = [shape(make_shape(t0=(1, 1))), start(steps)]
        for rows in range(6):
            self.assertEqual(last(*calls, run(rows), dry()), [0, 4, 1, 4, 0])

    def test_rows_are_told_anew_each_time(self):
        calls = [shape(make_shape(t0=(1, 1))), start([[4, 0, 0, 0, 0], [14, 1, 0, 0, 0], END])]
        given = ask(*calls, dry(10), dry(10), run(4), dry(10))[2:]
        self.assertEqual(given, [[1, 0, 5, 1, 0], [1, 0, 5, 1, 0], [1], [1, 0, 5, 1, 0]])


class Chance(unittest.TestCase):
    """Programs drawn by chance, run dry first and then in earnest."""

    def test_dry_tells_what_comes(self):
        source = random.Random(33)
        kinds = {}
        for turn in range(300):
            before = [put(0, any_ground(source)), start(*any_program(source)), run(source.choice((0, 1, 5, 20, 60)))]
            rows = source.choice((0, 1, 2, 10, 50, 300))
            given = ask(*before, dry(rows), run(rows), stand())[3:]
            kinds[tuple(given[1])] = True
            if given[1] == [3, 5]:
                continue
            told = given[0][:-4]
            self.assertEqual((told, given[0][-4]), (given[1], given[2][1]))
        for answer in ((0,), (1,), (3, 3), (3, 4), (3, 5)):
            self.assertIn(answer, kinds)

    def test_pages_that_dry_tells_suffice_and_are_needed(self):
        source = random.Random(34)
        stops = 0
        for turn in range(120):
            before = [put(0, any_ground(source)), start(*any_program(source))]
            rows = source.choice((10, 50, 300))
            given = ask(*before, dry(rows), run(rows), *LOOKS)[2:]
            if given[1] == [3, 5]:
                continue
            was_read, was_written = given[0][-2:]
            opened = [2 if was_written >> p & 1 else was_read >> p & 1 for p in range(16)]
            pages = [page(p, opened[p]) for p in range(16)]
            self.assertEqual(ask(*before, *pages, run(rows), *LOOKS)[18:], given[1:])
            for p in range(16):
                if opened[p]:
                    stops += 1
                    self.assertEqual(last(*before, *pages, page(p, opened[p] - 1), run(rows))[:2], [2, p])
        self.assertGreater(stops, 100)

    def test_how_many_rows(self):
        # Of a program of loads and stores alone what's paid are rows.
        source = random.Random(35)
        for turn in range(60):
            heights = [source.randrange(1, 17) for t in range(8)]
            sizes = [source.choice((0, 0, 3, 15))] + [4] * 8 + heights
            steps = [[source.choice((4, 5)), source.randrange(8), 0, 0, source.randrange(16500)] for q in range(30)]
            before = [shape(sizes), start(steps + [END]), run(source.choice((0, 1, 50)))]
            told, answer, behind = ask(*before, dry(150), run(150), stand())[3:]
            self.assertEqual(told[:-3], answer + [behind[1]])
            self.assertEqual(told[-3], behind[2] - last(*before, stand())[2])

    def test_it_changes_nothing(self):
        source = random.Random(36)
        for turn in range(80):
            before = [put(0, any_ground(source)), start(*any_program(source)), run(source.choice((0, 1, 7, 30)))]
            dries = [dry(source.choice((0, 1, 10, 4000))) for q in range(3)]
            self.assertEqual(ask(*before, *dries, *LOOKS)[6:], ask(*before, *LOOKS)[3:])
            more = [run(20)] + LOOKS
            self.assertEqual(ask(*before, *dries, *more)[6:], ask(*before, *more)[3:])


if __name__ == "__main__":
    unittest.main()
