"""The calls page, put, get, shape, shown, tile, start and run, and their refusals."""

import unittest

from support import ask, get, last, make_shape, page, pattern, put, run, shape, shown, start, tile

MOST = 2 ** 32 - 1
END = [0, 0, 0, 0, 0]


class Page(unittest.TestCase):
    def store_at(self, place):
        """Calls that store one row of one byte at a place."""
        steps = [[1, 0, 0, 0, 0], [5, 0, 0, 0, place], END]
        return [start(steps, [make_shape(t0=(1, 1))]), run()]

    def test_first_all_pages_are_open(self):
        for p in range(16):
            self.assertEqual(last(*self.store_at(1024 * p)), [0])
            self.assertEqual(last(*self.store_at(1024 * p + 1023)), [0])

    def test_a_page_is_as_told(self):
        self.assertEqual(ask(page(0, 0), page(15, 1), page(7, 2)), [[0], [0], [0]])
        for p in (0, 1, 15):
            for how in (0, 1):
                self.assertEqual(last(page(p, how), *self.store_at(1024 * p)), [2, p, 1])
            self.assertEqual(last(page(p, 0), page(p, 2), *self.store_at(1024 * p)), [0])

    def test_pages_are_1024_bytes(self):
        self.assertEqual(last(page(3, 0), *self.store_at(3 * 1024 - 1)), [0])
        self.assertEqual(last(page(3, 0), *self.store_at(3 * 1024)), [2, 3, 1])
        self.assertEqual(last(page(3, 0), *self.store_at(4 * 1024 - 1)), [2, 3, 1])
        self.assertEqual(last(page(3, 0), *self.store_at(4 * 1024)), [0])

    def test_refusals_change_nothing(self):
        for p, how in ((16, 0), (MOST, 2), (0, 3), (15, MOST), (16, 3)):
            self.assertEqual(last(page(p, how)), [-1])
        self.assertEqual(last(page(0, 3), page(16, 0), *self.store_at(0)), [0])
        self.assertEqual(last(page(2, 1), page(2, 3), *self.store_at(2048)), [2, 2, 1])


class PutAndGet(unittest.TestCase):
    def test_the_ground_is_zeros_at_first(self):
        self.assertEqual(last(get(0, 8192)), [8192] + [0] * 8192)
        self.assertEqual(last(get(8192, 8192)), [8192] + [0] * 8192)

    def test_what_is_put_is_got(self):
        data = pattern(200)
        given = ask(put(1000, data), get(1000, 200), get(999, 202), get(1005, 3))
        self.assertEqual(given[0], [0])
        self.assertEqual(given[1], [200] + data)
        self.assertEqual(given[2], [202, 0] + data + [0])
        self.assertEqual(given[3], [3] + data[5:8])

    def test_put_changes_only_its_bytes(self):
        given = last(put(10, [1, 2, 3, 4, 5]), put(12, [255, 0]), get(9, 7))
        self.assertEqual(given, [7, 0, 1, 2, 255, 0, 5, 0])

    def test_the_last_bytes(self):
        data = pattern(8192)
        self.assertEqual(ask(put(8192, data), get(8192, 8192)), [[0], [8192] + data])
        self.assertEqual(ask(put(16383, [9]), get(16383, 1)), [[0], [1, 9]])

    def test_pages_do_not_matter(self):
        closing = [page(p, 0) for p in range(16)]
        self.assertEqual(ask(*closing, put(1023, [5, 6]), get(1023, 2))[16:], [[0], [2, 5, 6]])

    def test_refusals_change_nothing(self):
        self.assertEqual(ask(put(16383, [1, 2]), get(16383, 1)), [[-1], [1, 0]])
        self.assertEqual(ask(put(8193, pattern(8192)), get(8193, 8191)), [[-1], [8191] + [0] * 8191])
        self.assertEqual(last(put(16384, [1])), [-1])
        self.assertEqual(last(put(MOST, [1])), [-1])
        self.assertEqual(last(get(16383, 2)), [-1])
        self.assertEqual(last(get(8193, 8192)), [-1])
        self.assertEqual(last(get(16384, 1)), [-1])
        self.assertEqual(last(get(MOST, 1)), [-1])

    def test_no_bytes(self):
        for a in (0, 16383, 16384):
            self.assertEqual(ask(put(a, []), get(a, 0)), [[0], [0]])
        for a in (16385, MOST):
            self.assertEqual(ask(put(a, []), get(a, 0)), [[-1], [-1]])


class Shape(unittest.TestCase):
    def assert_shape(self, numbers):
        self.assertEqual(ask(shape(numbers), shown()), [[0], [0] + numbers])

    def assert_none(self, numbers):
        before = make_shape(3, t1=(4, 2))
        given = ask(shape(before), shape(numbers), shown(), tile(1))
        self.assertEqual(given, [[0], [-2], [0] + before, [2, 4] + [0] * 8])

    def test_first_it_is_zeros(self):
        self.assertEqual(last(shown()), [0] + [0] * 17)

    def test_shapes_are_shown(self):
        self.assert_shape([0] * 17)
        self.assert_shape([15] + [0] * 16)
        self.assert_shape([0] + [64] * 8 + [16] * 8)
        self.assert_shape([15] + [1] * 8 + [1] * 8)
        self.assert_shape([1, 8, 7, 6, 5, 4, 3, 2, 1, 9, 10, 11, 12, 13, 14, 15, 16])
        self.assert_shape(make_shape(9, t0=(3, 1), t7=(64, 16)))

    def test_too_large(self):
        self.assert_none(make_shape(16, t0=(4, 4)))
        self.assert_none(make_shape(MOST))
        for t in range(8):
            self.assert_none(make_shape(**{f"t{t}": (65, 16)}))
            self.assert_none(make_shape(**{f"t{t}": (64, 17)}))
            self.assert_none(make_shape(**{f"t{t}": (MOST, 1)}))
            self.assert_none(make_shape(**{f"t{t}": (1, MOST)}))

    def test_width_without_height(self):
        for t in range(8):
            self.assert_none(make_shape(**{f"t{t}": (1, 0)}))
            self.assert_none(make_shape(**{f"t{t}": (0, 1)}))

    def test_not_seventeen_numbers(self):
        for count in (0, 1, 16, 18, 34, 64):
            self.assert_none([0] * count)

    def test_a_shape_makes_all_tiles_zeros(self):
        sizes = make_shape(t0=(2, 1), t5=(2, 1))
        steps = [[4, 0, 0, 0, 0], [4, 5, 0, 0, 0], [0, 0, 0, 0, 0]]
        before = [put(0, [7, 8]), shape(sizes), start(steps), run()]
        self.assertEqual(last(*before, tile(5)), [1, 2, 7, 8])
        self.assertEqual(ask(*before, shape(sizes), tile(0), tile(5))[4:], [[0], [1, 2, 0, 0], [1, 2, 0, 0]])


class Tile(unittest.TestCase):
    def test_height_width_bytes(self):
        given = ask(shape(make_shape(t2=(5, 3), t7=(64, 16))), tile(2), tile(7))
        self.assertEqual(given[1], [3, 5] + [0] * 15)
        self.assertEqual(given[2], [16, 64] + [0] * 1024)

    def test_row_by_row(self):
        steps = [[11, 1, 0, 0, 100], [4, 2, 0, 1, 0], END]
        calls = [put(0, [1, 2]), put(100, [3, 4]), put(200, [5, 6]), shape(make_shape(t2=(2, 3))), start(steps), run()]
        self.assertEqual(last(*calls, tile(2)), [3, 2, 1, 2, 3, 4, 5, 6])

    def test_one_that_is_not_there(self):
        for t in range(8):
            self.assertEqual(last(tile(t)), [0, 0])

    def test_refusal(self):
        self.assertEqual(ask(tile(8), tile(MOST)), [[-1], [-1]])


class Start(unittest.TestCase):
    def test_how_many_steps(self):
        self.assertEqual(last(start([])), [0])
        self.assertEqual(last(start([END])), [1])
        self.assertEqual(last(start([END] * 1024)), [1024])
        self.assertEqual(last(start([END], [[MOST] * 17] * 100)), [1])

    def test_refusals(self):
        for count in (1, 2, 3, 4, 6, 5119, 5121, 5125, 5200):
            self.assertEqual(last([7, count] + [0] * count + [0]), [-1])
        for count in (1, 16, 18, 33, 1699):
            self.assertEqual(last([7, 5] + END + [count] + [0] * count), [-1])

    def test_a_refusal_keeps_the_program(self):
        refused = [7, 1, 0, 0]
        self.assertEqual(last(refused, run()), [-9])
        self.assertEqual(last(start([]), run(), refused, run()), [3, 1])
        steps = [[11, 0, 0, 0, 1], [11, 0, 0, 0, 1], END]
        self.assertEqual(ask(start(steps), run(1), refused, run(1), run(0))[1:], [[1], [-1], [0], [0]])

    def test_it_stands_at_step_0_with_zeros(self):
        steps = [[12, 3, 0, 0, 5], [1, 0, 0, 0, 0], [5, 0, 3, 0, 0], END]
        sizes = [make_shape(t0=(1, 1))]
        calls = [put(0, [9] * 12), start(steps, sizes), run(), get(0, 12), start(steps, sizes), run(1), put(0, [9] * 12)]
        self.assertEqual(last(*calls, run(), get(0, 12))[1:], [9] * 5 + [0] + [9] * 6)
        for count in range(4):
            given = last(start(steps, sizes), run(count), put(0, [9] * 12), start(steps, sizes), run(), get(0, 12))
            self.assertEqual(given[1:], [9] * 5 + [0] + [9] * 6)

    def test_shape_and_tiles_stay(self):
        sizes = make_shape(1, t4=(3, 2))
        calls = [put(0, [1, 2, 3]), shape(sizes), start([[4, 4, 0, 0, 0], END]), run()]
        given = ask(*calls, start([END]), tile(4), shape(sizes), start([END]), shown())[5:]
        self.assertEqual(given[0], [2, 3, 0, 0, 0, 1, 2, 3])
        self.assertEqual(given[3], [0] + sizes)

    def test_the_start_row_of_a_cut_load_stays(self):
        calls = [put(0, pattern(4)), shape(make_shape(t0=(1, 4))), start([[4, 0, 0, 0, 0], END]), run(2)]
        more = [start([[4, 0, 0, 0, 1], END]), run()]
        first = pattern(4)
        self.assertEqual(last(*calls, *more, tile(0)), [4, 1, first[0], first[0], first[1], first[1]])

    def test_an_ended_run_is_started_anew(self):
        self.assertEqual(ask(start([]), run(), start([END]), run())[1::2], [[3, 1], [0]])


class Run(unittest.TestCase):
    def test_no_program(self):
        self.assertEqual(ask(run(), run(0), shown()), [[-9], [-9], [0] + [0] * 17])

    def test_answers(self):
        self.assertEqual(last(start([END]), run()), [0])
        self.assertEqual(last(start([[11, 0, 0, 0, 0], END]), run(0)), [1])
        self.assertEqual(last(start([[15, 0, 0, 0, 0]]), run()), [3, 1])
        sizes = shape(make_shape(t0=(1, 1)))
        self.assertEqual(last(page(4, 0), sizes, start([[4, 0, 0, 0, 4096], END]), run()), [2, 4, 0])
        self.assertEqual(last(page(4, 1), sizes, start([[5, 0, 0, 0, 4096], END]), run()), [2, 4, 1])

    def test_a_run_that_has_ended_answers_the_same(self):
        self.assertEqual(ask(start([END]), run(), run(0), run())[1:], [[0], [0], [0]])
        steps = [[3, 0, 0, 0, 0], END]
        given = ask(start(steps), run(), shape(make_shape(t0=(1, 1))), run(), run(0))
        self.assertEqual(given, [[2], [3, 3], [0], [3, 3], [3, 3]])


if __name__ == "__main__":
    unittest.main()
