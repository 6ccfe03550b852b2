"""Each kind of step, as far as it is neither a load, a store nor a dot."""

import unittest

from support import TOP, ask, get, last, make_shape, pattern, put, run, shape, shown, start, tile

END = [0, 0, 0, 0, 0]


def number_is(steps, r, value, rows=4000):
    """Whether r_r is this value behind these steps.

    A row of one byte is stored at r_r + (TOP - value + 5), which is place 5 just if so.
    """
    sizes = make_shape(t0=(1, 1))
    program = list(steps) + [[5, 0, r, r, (5 - value) % TOP], END]
    calls = [put(0, [9] * 11), shape(sizes), start(program), run(rows), get(0, 11)]
    given = ask(*calls)
    return given[3] == [0] and given[4][1:] == [9] * 5 + [0] + [9] * 5


class End(unittest.TestCase):
    def test_it_ends_and_costs_nothing(self):
        self.assertEqual(ask(start([END]), run(0), run()), [[1], [0], [0]])

    def test_what_stands_behind_is_not_done(self):
        steps = [END, [1, 0, 0, 0, 0]]
        sizes = make_shape(3, t0=(1, 1))
        self.assertEqual(ask(start(steps, [sizes]), run(), shown())[1:], [[0], [0] + [0] * 17])

    def test_the_start_row_stays(self):
        sizes = make_shape(7, t0=(4, 9))
        self.assertEqual(last(shape(sizes), start([END]), run(), shown()), [0] + sizes)

    def test_v_does_not_matter(self):
        self.assertEqual(last(start([[0, 7, 7, 7, TOP - 1]]), run(0)), [0])


class Shape(unittest.TestCase):
    def test_shape_number_v_is_set(self):
        sizes = [make_shape(q, t1=(q + 1, 2 * q + 1)) for q in range(5)]
        for v in range(5):
            given = last(start([[1, 0, 0, 0, v], END], sizes), run(), shown())
            self.assertEqual(given, [0] + sizes[v])

    def test_tiles_are_zeros_then(self):
        sizes = make_shape(t0=(2, 2))
        steps = [[1, 0, 0, 0, 0], [4, 0, 0, 0, 0], [1, 0, 0, 0, 0], END]
        calls = [put(0, [4, 5]), start(steps, [sizes])]
        self.assertEqual(last(*calls, run(3), tile(0)), [2, 2, 4, 5, 4, 5])
        self.assertEqual(last(*calls, run(4), tile(0)), [2, 2, 0, 0, 0, 0])

    def test_it_costs_1(self):
        calls = [start([[1, 0, 0, 0, 0], END], [make_shape(1)])]
        self.assertEqual(ask(*calls, run(0), shown())[1:], [[1], [0] + [0] * 17])
        self.assertEqual(ask(*calls, run(1), shown())[1:], [[0], [0, 1] + [0] * 16])

    def test_the_programs_shape_is_not_changed_by_moves(self):
        sizes = make_shape(1, t0=(1, 3))
        steps = [[1, 0, 0, 0, 0], [4, 0, 0, 0, 0], [1, 0, 0, 0, 0], END]
        self.assertEqual(last(start(steps, [sizes]), run(), shown()), [0] + sizes)


class Free(unittest.TestCase):
    def test_the_shape_of_zeros_is_set(self):
        calls = [shape(make_shape(3, t0=(64, 16), t6=(1, 2))), start([[2, 7, 7, 7, 9], END])]
        given = ask(*calls, run(), shown(), tile(0), tile(6))
        self.assertEqual(given[2:], [[0], [0] + [0] * 17, [0, 0], [0, 0]])

    def test_it_costs_1(self):
        sizes = make_shape(3, t0=(64, 16))
        self.assertEqual(ask(shape(sizes), start([[2, 0, 0, 0, 0], END]), run(0), shown())[2:], [[1], [0] + sizes])
        self.assertEqual(last(shape(sizes), start([[2, 0, 0, 0, 0], END]), run(1)), [0])


class Zero(unittest.TestCase):
    def test_only_its_tile_is_zeros(self):
        steps = [[4, 1, 0, 0, 0], [4, 2, 0, 0, 0], [3, 1, 0, 0, 0], END]
        calls = [put(0, [6, 7, 8]), shape(make_shape(t1=(2, 2), t2=(3, 1))), start(steps)]
        given = ask(*calls, run(), tile(1), tile(2))[3:]
        self.assertEqual(given, [[0], [2, 2, 0, 0, 0, 0], [1, 3, 6, 7, 8]])

    def test_the_start_row_is_0_then(self):
        calls = [shape(make_shape(9, t1=(2, 2))), start([[3, 1, 0, 0, 0], END])]
        self.assertEqual(ask(*calls, run(), shown())[2:], [[0], [0] + make_shape(0, t1=(2, 2))])

    def test_it_costs_1(self):
        calls = [shape(make_shape(9, t1=(2, 2))), start([[3, 1, 0, 0, 0], END])]
        self.assertEqual(ask(*calls, run(0), shown())[2:], [[1], [0] + make_shape(9, t1=(2, 2))])
        self.assertEqual(last(*calls, run(1)), [0])


class Numbers(unittest.TestCase):
    def test_set(self):
        for r in range(8):
            self.assertTrue(number_is([[11, r, 0, 0, 12345]], r, 12345))
            self.assertFalse(number_is([[11, r, 0, 0, 12345]], r, 12346))
        self.assertTrue(number_is([[11, 2, 0, 0, 7], [11, 2, 0, 0, TOP - 1]], 2, TOP - 1))
        self.assertTrue(number_is([[11, 2, 0, 0, 7], [11, 3, 0, 0, 8]], 2, 7))
        self.assertTrue(number_is([[11, 2, 0, 0, 7], [11, 2, 0, 0, 0]], 2, 0))

    def test_first_they_are_zeros(self):
        for r in range(8):
            self.assertTrue(number_is([], r, 0))

    def test_add(self):
        self.assertTrue(number_is([[12, 5, 0, 0, 10], [12, 5, 0, 0, 30]], 5, 40))
        self.assertTrue(number_is([[11, 5, 0, 0, 10], [12, 5, 0, 0, TOP - 1]], 5, 9))
        self.assertTrue(number_is([[11, 5, 0, 0, TOP - 1], [12, 5, 0, 0, 1]], 5, 0))
        self.assertTrue(number_is([[12, 5, 0, 0, TOP - 1]], 5, TOP - 1))
        self.assertTrue(number_is([[11, 4, 0, 0, 6], [12, 5, 4, 4, 1]], 5, 1))

    def test_copy(self):
        self.assertTrue(number_is([[11, 1, 0, 0, 50], [13, 6, 1, 0, 7]], 6, 57))
        self.assertTrue(number_is([[11, 1, 0, 0, 50], [13, 6, 1, 0, 7]], 1, 50))
        self.assertTrue(number_is([[11, 1, 0, 0, 50], [11, 6, 0, 0, 9], [13, 6, 1, 0, 0]], 6, 50))
        self.assertTrue(number_is([[11, 1, 0, 0, TOP - 3], [13, 6, 1, 0, 5]], 6, 2))
        self.assertTrue(number_is([[11, 1, 0, 0, 4], [13, 1, 1, 0, 5]], 1, 9))

    def test_again_loops(self):
        steps = [[11, 1, 0, 0, 4], [12, 2, 0, 0, 10], [14, 1, 0, 0, 1]]
        self.assertTrue(number_is(steps, 2, 40))
        self.assertTrue(number_is(steps, 1, 0))

    def test_again_goes_on_behind_at_0(self):
        self.assertTrue(number_is([[11, 1, 0, 0, 1], [14, 1, 0, 0, 1000]], 1, 0))

    def test_again_of_0_is_not_0(self):
        self.assertTrue(number_is([[14, 1, 0, 0, 2], [11, 1, 0, 0, 3]], 1, TOP - 1))

    def test_again_may_go_to_no_step(self):
        for v in (2, 1024, TOP - 1):
            calls = [start([[14, 1, 0, 0, v], END])]
            self.assertEqual(ask(*calls, run(0), run(1)), [[2], [1], [3, 1]])

    def test_again_may_stay(self):
        calls = [start([[11, 3, 0, 0, 5], [14, 3, 0, 0, 1], END])]
        self.assertEqual(ask(*calls, run(5), run(0), run(1))[1:], [[1], [1], [0]])

    def test_each_costs_1(self):
        for kind in (11, 12, 13):
            steps = [[kind, 1, 1, 0, 1]] * 3 + [END]
            self.assertEqual(ask(start(steps), run(2), run(0), run(1)), [[4], [1], [1], [0]])
        steps = [[11, 1, 0, 0, 1], [14, 1, 0, 0, 0], END]
        self.assertEqual(ask(start(steps), run(1), run(1))[1:], [[1], [0]])

    def test_the_start_row_stays(self):
        sizes = make_shape(5, t0=(1, 8))
        for step in ([11, 1, 0, 0, 1], [12, 1, 0, 0, 1], [13, 1, 0, 0, 1], [14, 1, 0, 0, 1]):
            self.assertEqual(last(shape(sizes), start([step, END]), run(), shown()), [0] + sizes)

    def test_numbers_lead_loads(self):
        data = pattern(300)
        steps = [[11, 3, 0, 0, 100], [11, 4, 0, 0, 7], [4, 0, 3, 4, 20], END]
        given = last(put(0, data), shape(make_shape(t0=(2, 3))), start(steps), run(), tile(0))
        self.assertEqual(given, [3, 2] + data[120:122] + data[127:129] + data[134:136])


if __name__ == "__main__":
    unittest.main()
