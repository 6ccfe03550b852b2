"""The call stand: where a run stands, what's paid, the start row and r0 to r7."""

import unittest

from support import TOP, ask, dry, last, make_shape, page, pattern, plan, put, run, shape, shown, stand, start, tile

END = [0, 0, 0, 0, 0]
ZEROS = [0] * 8
JOB = [0, 1, 1, 4, 0, 4, 8, 9, 10, 11]


class Stand(unittest.TestCase):
    def test_no_program(self):
        self.assertEqual(ask(stand(), shape(make_shape(3)), stand()), [[-9], [0], [-9]])

    def test_started(self):
        self.assertEqual(last(start([END]), stand()), [1, 0, 0, 0] + ZEROS)
        self.assertEqual(last(start([]), stand()), [1, 0, 0, 0] + ZEROS)
        self.assertEqual(last(shape(make_shape(9)), start([END]), stand()), [1, 0, 0, 9] + ZEROS)

    def test_a_refused_start_keeps_it(self):
        calls = [start([[11, 0, 0, 0, 7], END]), run(1)]
        self.assertEqual(last(*calls, [7, 1, 0, 0], plan([1]), stand()), last(*calls, stand()))

    def test_the_end(self):
        self.assertEqual(last(start([END, END]), run(0), stand()), [0, 0, 0, 0] + ZEROS)
        self.assertEqual(last(start([[11, 2, 0, 0, 5], END]), run(1), stand()), [0, 1, 1, 0, 0, 0, 5, 0, 0, 0, 0, 0])
        self.assertEqual(last(start([[11, 2, 0, 0, 5], END]), run(), stand(), run(), stand())[:3], [0, 1, 1])

    def test_the_end_is_only_there_when_it_was_come_to(self):
        calls = [start([[11, 0, 0, 0, 0], END])]
        self.assertEqual(last(*calls, run(0), stand())[:3], [1, 0, 0])
        self.assertEqual(last(*calls, dry(5), stand())[:3], [1, 0, 0])
        self.assertEqual(last(*calls, run(1), stand())[:3], [0, 1, 1])

    def test_a_pause(self):
        steps = [[11, 0, 0, 0, 1], [12, 0, 0, 0, 2], [13, 7, 0, 0, TOP - 1], [14, 5, 0, 0, 2], END]
        wanted = [
            [1, 0, 0, 0] + ZEROS,
            [1, 1, 1, 0, 1] + ZEROS[1:],
            [1, 2, 2, 0, 3] + ZEROS[1:],
            [1, 3, 3, 0, 3] + ZEROS[2:] + [2],
            [1, 2, 4, 0, 3, 0, 0, 0, 0, TOP - 1, 0, 2],
        ]
        for rows in range(5):
            self.assertEqual(last(start(steps), run(rows), stand()), wanted[rows])

    def test_within_a_load_and_a_store(self):
        for kind in (4, 5):
            calls = [shape(make_shape(t3=(4, 5))), start([[11, 1, 0, 0, 4], [kind, 3, 0, 1, 0], END])]
            wanted = [[1, 0, 0, 0]] + [[1, 1, 1 + i, i] for i in range(5)] + [[0, 2, 6, 0]] * 2
            for rows in range(8):
                self.assertEqual(last(*calls, run(rows), stand())[:4], wanted[rows])

    def test_at_a_closed_page(self):
        calls = [page(1, 0), shape(make_shape(t0=(1, 3))), start([[11, 4, 0, 0, 512], [4, 0, 0, 4, 0], END])]
        self.assertEqual(ask(*calls, run(), stand())[3:], [[2, 1, 0], [1, 1, 3, 2, 0, 0, 0, 0, 512, 0, 0, 0]])
        self.assertEqual(ask(*calls, run(), run(), stand())[4:], [[2, 1, 0], [1, 1, 3, 2, 0, 0, 0, 0, 512, 0, 0, 0]])
        self.assertEqual(last(*calls, run(), page(1, 1), run(), stand())[:4], [0, 2, 4, 0])

    def test_faults(self):
        self.assertEqual(last(start([]), run(), stand()), [3, 0, 0, 0] + ZEROS)
        self.assertEqual(last(start([[11, 0, 0, 0, 1]]), run(), stand())[:3], [3, 1, 1])
        self.assertEqual(last(start([[11, 0, 0, 0, 1], [15, 0, 0, 0, 0]]), run(), stand())[:3], [3, 1, 1])
        self.assertEqual(last(start([[1, 0, 0, 0, 0]], [make_shape(16)]), run(), stand())[:3], [3, 0, 0])
        self.assertEqual(last(start([[2, 0, 0, 0, 0], [3, 0, 0, 0, 0]]), run(), stand())[:3], [3, 1, 1])

    def test_a_step_far_behind_the_last(self):
        calls = [start([[14, 0, 0, 0, TOP - 1]]), run(), stand()]
        self.assertEqual(ask(*calls)[1:], [[3, 1], [3, TOP - 1, 1, 0, TOP - 1] + ZEROS[1:]])

    def test_a_row_outside_the_ground(self):
        calls = [shape(make_shape(t0=(8, 5))), start([[11, 1, 0, 0, 8], [4, 0, 0, 1, 16360], END]), run(), stand()]
        self.assertEqual(ask(*calls)[2:], [[3, 4], [3, 1, 4, 3, 0, 8, 0, 0, 0, 0, 0, 0]])

    def test_the_start_row_is_as_it_is_now(self):
        calls = [start([END]), run(), shape(make_shape(7)), stand()]
        self.assertEqual(last(*calls), [0, 0, 0, 7] + ZEROS)

    def test_what_costs_and_what_does_not(self):
        sizes = make_shape(15, t0=(4, 2), t1=(4, 2), t2=(4, 1))
        steps = [
            [1, 0, 0, 0, 0], [4, 0, 0, 0, 0], [5, 0, 0, 0, 0], [3, 0, 0, 0, 0], [6, 0, 1, 2, 0], [10, 0, 1, 2, 0],
            [2, 0, 0, 0, 0], END,
        ]
        # Step 1 costs nothing: the start row isn't below the height. Step 2 costs two rows.
        wanted = [[0, 0], [2, 1], [2, 2], [3, 3], [4, 4], [5, 5], [6, 6], [7, 7], [7, 7]]
        for rows in range(9):
            self.assertEqual(last(start(steps, [sizes]), run(rows), stand())[1:3], wanted[rows])

    def test_paid_is_told_since_the_start(self):
        calls = [start([[11, 0, 0, 0, 0], [14, 0, 0, 0, 1], END])] + [run(1000)] * 3
        self.assertEqual(last(*calls, stand())[:3], [1, 1, 3000])
        self.assertEqual(last(*calls, start([END]), stand()), [1, 0, 0, 0] + ZEROS)
        self.assertEqual(last(*calls, plan(JOB), stand()), [1, 0, 0, 0] + ZEROS)

    def test_it_changes_nothing(self):
        calls = [put(0, pattern(8)), shape(make_shape(t0=(2, 4))), start([[4, 0, 0, 0, 0], END]), run(2)]
        looks = [shown(), tile(0), run(1), shown(), tile(0), run(), tile(0)]
        with_it = [stand(), shown(), stand(), tile(0), run(1), stand(), shown(), tile(0), run(), stand(), tile(0)]
        given = [answer for call, answer in zip(with_it, ask(*calls, *with_it)[4:]) if call != stand()]
        self.assertEqual(given, ask(*calls, *looks)[4:])


if __name__ == "__main__":
    unittest.main()
