"""How running pays, pauses and goes on; a run cut anywhere comes to what it comes to uncut (P2)."""

import random
import unittest

from quiltwork.machine import answers
from samples import LOOKS, any_ground, any_program
from support import ask, get, last, make_shape, page, pattern, put, run, shape, shown, split, start, tile

END = [0, 0, 0, 0, 0]


class Paying(unittest.TestCase):
    STEPS = [
        [1, 0, 0, 0, 0], [11, 1, 0, 0, 4], [4, 0, 0, 1, 0], [4, 1, 0, 1, 100], [4, 2, 0, 1, 200], [6, 0, 1, 2, 0],
        [5, 0, 0, 1, 300], [3, 0, 0, 0, 0], [2, 0, 0, 0, 0], END,
    ]
    SIZES = make_shape(t0=(4, 3), t1=(8, 3), t2=(4, 2))
    COST = 1 + 1 + 3 + 3 + 2 + 1 + 3 + 1 + 1

    def test_what_a_program_costs(self):
        calls = [start(self.STEPS, [self.SIZES])]
        for rows in range(self.COST):
            self.assertEqual(last(*calls, run(rows)), [1])
        for rows in (self.COST, self.COST + 1, 4000):
            self.assertEqual(last(*calls, run(rows)), [0])

    def test_pieces_add_up(self):
        calls = [start(self.STEPS, [self.SIZES])]
        for rows in range(1, self.COST + 1):
            pieces = -(-self.COST // rows)
            given = ask(*calls, *[run(rows)] * pieces)[1:]
            self.assertEqual(given, [[1]] * (pieces - 1) + [[0]])

    def test_what_was_not_used_is_not_kept(self):
        calls = [page(0, 0), shape(make_shape(t0=(1, 3))), start([[4, 0, 0, 0, 0], END])]
        self.assertEqual(ask(*calls, run(4000), page(0, 2), run(2), run(0), run(1))[3:], [[2, 0, 0], [0], [1], [1], [0]])

    def test_a_row_that_can_not_be_paid_before_a_closed_page(self):
        calls = [page(1, 0), shape(make_shape(t0=(1, 3))), start([[11, 1, 0, 0, 1024], [4, 0, 0, 1, 0], END])]
        self.assertEqual(ask(*calls, run(0), run(1), run(1), run(0), run(1))[3:], [[1], [1], [1], [1], [2, 1, 0]])
        self.assertEqual(last(*calls, run(2)), [1])
        self.assertEqual(last(*calls, run(3)), [2, 1, 0])

    def test_a_step_that_can_not_be_paid_is_not_done(self):
        sizes = make_shape(3, t0=(4, 4))
        for step in ([1, 0, 0, 0, 0], [2, 0, 0, 0, 0], [3, 0, 0, 0, 0], [4, 0, 0, 0, 0], [5, 0, 0, 0, 0]):
            calls = [put(0, pattern(4)), shape(sizes), start([step, END], [[0] * 17]), run(0), shown(), tile(0), get(0, 5)]
            self.assertEqual(ask(*calls)[3:], [[1], [0] + sizes, [4, 4] + [0] * 16, [5] + pattern(4) + [0]])

    def test_a_fault_behind_what_was_paid_is_found(self):
        self.assertEqual(last(start([[11, 0, 0, 0, 0], [15, 0, 0, 0, 0]]), run(1)), [3, 1])
        self.assertEqual(last(start([[11, 0, 0, 0, 0], [15, 0, 0, 0, 0]]), run(0)), [1])

    def test_an_end_behind_what_was_paid_is_found(self):
        self.assertEqual(last(start([[11, 0, 0, 0, 0], END]), run(1)), [0])
        self.assertEqual(last(shape(make_shape(t0=(1, 16))), start([[4, 0, 0, 0, 0], END]), run(16)), [0])
        self.assertEqual(last(shape(make_shape(t0=(1, 16))), start([[4, 0, 0, 0, 0], END]), run(15)), [1])

    def test_a_new_shape_in_a_pause(self):
        data = pattern(64)
        calls = [put(0, data), shape(make_shape(t0=(1, 4))), start([[11, 1, 0, 0, 1], [4, 0, 0, 1, 0], END]), run(3)]
        given = ask(*calls, shape(make_shape(1, t0=(2, 3))), run(2), tile(0))[4:]
        self.assertEqual(given, [[0], [0], [3, 2, 0, 0] + data[1:3] + data[2:4]])


class Cuts(unittest.TestCase):
    TOTAL = 300

    def flat(self, *calls):
        return [number for call in calls for number in call]

    def uncut(self, before):
        return split(answers(self.flat(*before, run(self.TOTAL), *LOOKS)))[len(before):]

    def cut(self, source, before):
        """The same, cut at random places."""
        left = self.TOTAL
        pieces = []
        while left > 0 and len(pieces) < 30:
            piece = min(left, source.choice((0, 1, 2, 3, 5, 17, 60)))
            pieces.append(run(piece))
            left -= piece
        pieces.append(run(left))
        calls = list(before) + pieces + LOOKS
        self.assertLessEqual(len(calls), 60)
        return split(answers(self.flat(*calls)))[len(calls) - 1 - len(LOOKS):]

    def test_cut_by_rows(self):
        source = random.Random(2024)
        kinds = {}
        for turn in range(250):
            before = [put(0, any_ground(source)), start(*any_program(source))]
            uncut = self.uncut(before)
            kinds[tuple(uncut[0])] = True
            for again in range(2):
                self.assertEqual(self.cut(source, before), uncut)
        # The programs are of many sorts: some end, some pause, some have each of these faults.
        for answer in ((0,), (1,), (3, 3), (3, 4), (3, 5)):
            self.assertIn(answer, kinds)

    def test_cut_everywhere(self):
        source = random.Random(5)
        for turn in range(8):
            before = [put(0, any_ground(source)), start(*any_program(source))]
            for first in range(0, 60):
                whole = split(answers(self.flat(*before, run(60), *LOOKS)))[2:]
                calls = list(before) + [run(first), run(60 - first)] + LOOKS
                self.assertEqual(split(answers(self.flat(*calls)))[3:], whole)

    def test_cut_by_pages(self):
        source = random.Random(77)
        stops = 0
        for turn in range(150):
            before = [put(0, any_ground(source)), start(*any_program(source))]
            uncut = self.uncut(before)
            if uncut[0] == [1]:
                continue
            closed = [page(p, source.randrange(3)) for p in range(16)]
            calls = before + closed
            given = split(answers(self.flat(*calls, run(self.TOTAL))))[-1]
            # Each page is opened when the run stands at it; a run that stands there has done nothing wrong.
            while given[0] == 2 and len(calls) < 46:
                stops += 1
                calls = calls + [run(self.TOTAL), page(given[1], 1 + given[2])]
                given = split(answers(self.flat(*calls, run(self.TOTAL))))[-1]
            if given[0] == 2:
                continue
            calls = calls + [run(self.TOTAL)] + LOOKS
            self.assertEqual(split(answers(self.flat(*calls)))[-1 - len(LOOKS):], uncut)
        self.assertGreater(stops, 50)


if __name__ == "__main__":
    unittest.main()
