"""Loads and stores: rows, start rows, places, pages (P5)."""

import unittest

from support import TOP, ask, get, last, make_shape, page, pattern, put, run, shape, shown, start, tile

END = [0, 0, 0, 0, 0]
LOAD = 4
STORE = 5


def move(kind, t, place, stride):
    """A step that moves tile t, with the steps that it needs before it."""
    return [[11, 1, 0, 0, stride % TOP], [kind, t, 0, 1, place % TOP], END]


class Loads(unittest.TestCase):
    def test_rows_by_stride(self):
        data = pattern(1000)
        for width, height, stride in ((5, 3, 5), (64, 16, 1), (4, 16, 50), (1, 1, 999), (7, 4, 0)):
            calls = [put(0, data), shape(make_shape(t3=(width, height))), start(move(LOAD, 3, 20, stride)), run()]
            rows = [data[20 + i * stride:20 + i * stride + width] for i in range(height)]
            self.assertEqual(last(*calls, tile(3)), [height, width] + sum(rows, []))

    def test_nothing_else_is_changed(self):
        data = pattern(64)
        calls = [put(0, data), shape(make_shape(t0=(4, 2), t1=(4, 2))), start(move(LOAD, 0, 0, 4)), run()]
        given = ask(*calls, tile(1), get(0, 65), shown())[4:]
        self.assertEqual(given, [[2, 4] + [0] * 8, [65] + data + [0], [0] + make_shape(t0=(4, 2), t1=(4, 2))])

    def test_the_start_row(self):
        data = pattern(16)
        for first in range(16):
            calls = [put(0, [200] * 16), shape(make_shape(t0=(1, 16)))]
            fill = [start(move(LOAD, 0, 0, 1)), run(), put(0, data)]
            # The start row is brought there by a load that is cut.
            cut = [start(move(LOAD, 0, 100, 0)), run(1 + first), start(move(LOAD, 0, 0, 1))]
            given = ask(*calls, *fill, *cut, run(), tile(0), shown())[-3:]
            kept = [0] * first
            self.assertEqual(given, [[0], [16, 1] + kept + data[first:], [0] + make_shape(t0=(1, 16))])

    def test_rows_before_the_start_row_stay(self):
        data = pattern(40)
        sizes = make_shape(t0=(2, 5))
        steps = [[11, 1, 0, 0, 2], [4, 0, 0, 1, 0], [4, 0, 0, 1, 20], END]
        calls = [put(0, data), shape(sizes), start(steps), run(1 + 5 + 2)]
        self.assertEqual(ask(*calls, shown(), tile(0))[4:], [[0, 2] + sizes[1:], [5, 2] + data[20:24] + data[4:10]])

    def test_a_shapes_start_row(self):
        data = pattern(8)
        sizes = make_shape(5, t0=(1, 8))
        given = ask(put(0, data), shape(sizes), start(move(LOAD, 0, 0, 1)), run(), tile(0), shown())
        self.assertEqual(given[3:], [[0], [8, 1] + [0] * 5 + data[5:], [0, 0] + sizes[1:]])

    def test_a_start_row_not_below_the_height(self):
        data = pattern(8)
        for first in (3, 4, 15):
            sizes = make_shape(first, t0=(1, 3))
            steps = [[4, 0, 0, 0, 99999], [4, 0, 0, 0, 2], END]
            calls = [put(0, data), shape(sizes), start(steps)]
            # The first load is done at once, though its rows lie outside, and costs nothing.
            self.assertEqual(ask(*calls, run(0), shown())[3:], [[1], [0, 0] + sizes[1:]])
            self.assertEqual(ask(*calls, run(3), tile(0))[3:], [[0], [3, 1] + [data[2]] * 3])

    def test_row_by_row_is_paid(self):
        data = pattern(16)
        for rows in range(17):
            calls = [put(0, data), shape(make_shape(t0=(1, 16))), start(move(LOAD, 0, 0, 1)), run(1 + rows)]
            given = ask(*calls, shown(), tile(0))[3:]
            self.assertEqual(given[0], [0] if rows == 16 else [1])
            self.assertEqual(given[1], [0, rows % 16] + make_shape(t0=(1, 16))[1:])
            self.assertEqual(given[2], [16, 1] + data[:rows] + [0] * (16 - rows))


class Stores(unittest.TestCase):
    def filled(self, width, height, data):
        """Calls that make tile 0 this data, and the ground from 0 on this data too."""
        return [put(0, data), shape(make_shape(t0=(width, height))), start(move(LOAD, 0, 0, width)), run()]

    def test_rows_by_stride(self):
        for width, height, stride in ((5, 3, 5), (64, 16, 64), (4, 16, 50), (1, 1, 999)):
            data = pattern(width * height)
            calls = self.filled(width, height, data) + [start(move(STORE, 0, 2000, stride)), run()]
            expected = [0] * 1200
            for i in range(height):
                expected[i * stride:i * stride + width] = data[i * width:(i + 1) * width]
            self.assertEqual(last(*calls, get(2000, 1200)), [1200] + expected)

    def test_later_rows_lie_over_earlier_ones(self):
        calls = self.filled(2, 2, [1, 2, 3, 4]) + [start(move(STORE, 0, 100, 1)), run()]
        self.assertEqual(last(*calls, get(99, 5)), [5, 0, 1, 3, 4, 0])

    def test_the_tile_stays(self):
        data = pattern(12)
        calls = self.filled(4, 3, data) + [start(move(STORE, 0, 100, 4)), run()]
        self.assertEqual(last(*calls, tile(0)), [3, 4] + data)

    def test_what_is_stored_stays_what_it_was(self):
        """A later change of the tile isn't seen in the ground, and the other way round."""
        data = pattern(4)
        calls = self.filled(4, 1, data) + [start([[5, 0, 0, 0, 100], [3, 0, 0, 0, 0], END]), run()]
        self.assertEqual(ask(*calls, get(100, 4), tile(0))[6:], [[4] + data, [1, 4, 0, 0, 0, 0]])
        calls = self.filled(4, 1, data) + [put(0, [0] * 4)]
        self.assertEqual(last(*calls, tile(0)), [1, 4] + data)

    def test_the_start_row(self):
        data = pattern(4)
        calls = self.filled(1, 4, data) + [start(move(STORE, 0, 100, 1)), run(3), start(move(STORE, 0, 200, 1))]
        given = ask(*calls, run(), get(100, 4), get(200, 4), shown())[7:]
        self.assertEqual(given, [[0], [4] + data[:2] + [0, 0], [4, 0, 0] + data[2:], [0] + make_shape(t0=(1, 4))])

    def test_a_start_row_not_below_the_height(self):
        steps = [[5, 0, 0, 0, 99999], END]
        for first in (2, 15):
            sizes = make_shape(first, t0=(1, 2))
            self.assertEqual(ask(shape(sizes), start(steps), run(0), shown())[2:], [[0], [0, 0] + sizes[1:]])


class Places(unittest.TestCase):
    def test_strides_that_go_back(self):
        data = pattern(100)
        calls = [put(0, data), shape(make_shape(t0=(3, 4))), start(move(LOAD, 0, 90, -30)), run(), tile(0)]
        self.assertEqual(last(*calls), [4, 3] + data[90:93] + data[60:63] + data[30:33] + data[0:3])

    def test_sums_go_round(self):
        data = pattern(100)
        steps = [[11, 2, 0, 0, TOP - 10], [11, 1, 0, 0, 2 ** 63], [4, 0, 2, 1, 15], END]
        calls = [put(0, data), shape(make_shape(t0=(2, 1), t1=(2, 3)))]
        self.assertEqual(last(*calls, start(steps), run(), tile(0)), [1, 2] + data[5:7])
        # 2 times 2^63 is 0 again, 2^63 itself lies outside.
        steps[2][1] = 1
        given = ask(*calls, start(steps), run(), shown(), tile(1))[3:]
        self.assertEqual(given[0], [3, 4])
        self.assertEqual(given[1][1], 1)
        self.assertEqual(given[2], [3, 2] + data[5:7] + [0] * 4)

    def test_a_place_that_is_0_by_going_round(self):
        data = pattern(8)
        steps = [[11, 2, 0, 0, TOP - 1], [4, 0, 2, 1, 1], END]
        self.assertEqual(last(put(0, data), shape(make_shape(t0=(8, 1))), start(steps), run(), tile(0))[2:], data)

    def test_the_end_of_a_row_does_not_go_round(self):
        sizes = shape(make_shape(t0=(8, 1)))
        self.assertEqual(last(sizes, start(move(LOAD, 0, TOP - 1, 0)), run()), [3, 4])
        self.assertEqual(last(sizes, start(move(STORE, 0, TOP - 8, 0)), run()), [3, 4])

    def test_the_grounds_last_byte(self):
        data = pattern(64)
        for width in (1, 2, 63, 64):
            sizes = shape(make_shape(t0=(width, 1)))
            calls = [put(16384 - width, data[:width]), sizes]
            self.assertEqual(last(*calls, start(move(LOAD, 0, 16384 - width, 0)), run(), tile(0))[2:], data[:width])
            for kind in (LOAD, STORE):
                self.assertEqual(last(*calls, start(move(kind, 0, 16385 - width, 0)), run()), [3, 4])

    def test_a_start_row_counts_in_the_place(self):
        data = pattern(100)
        sizes = make_shape(3, t0=(1, 5))
        given = last(put(0, data), shape(sizes), start(move(LOAD, 0, 1, 10)), run(), tile(0))
        self.assertEqual(given, [5, 1, 0, 0, 0, data[31], data[41]])


class Pages(unittest.TestCase):
    def test_what_loads_and_stores_want(self):
        sizes = shape(make_shape(t0=(4, 1)))
        for kind in (LOAD, STORE):
            for how in (0, 1, 2):
                given = last(page(6, how), sizes, start(move(kind, 0, 6144, 0)), run())
                wanted = 1 if kind == LOAD else 2
                self.assertEqual(given, [0] if how >= wanted else [2, 6, kind - LOAD])

    def test_the_lower_page_first(self):
        sizes = shape(make_shape(t0=(2, 1)))
        for kind in (LOAD, STORE):
            for low in (0, 1, 2):
                for high in (0, 1, 2):
                    wanted = 1 if kind == LOAD else 2
                    given = last(page(4, low), page(5, high), sizes, start(move(kind, 0, 5119, 0)), run())
                    expected = [0] if high >= wanted else [2, 5, kind - LOAD]
                    self.assertEqual(given, expected if low >= wanted else [2, 4, kind - LOAD])

    def test_just_the_pages_that_are_touched(self):
        for width in (1, 2, 63, 64):
            sizes = shape(make_shape(t0=(width, 1)))
            closed = [page(p, 0) for p in range(16) if p != 3]
            for place in (3072, 4096 - width):
                self.assertEqual(last(*closed, sizes, start(move(STORE, 0, place, 0)), run()), [0])
            self.assertEqual(last(*closed, sizes, start(move(STORE, 0, 3071, 0)), run()), [2, 2, 1])
            if width > 1:
                self.assertEqual(last(*closed, sizes, start(move(STORE, 0, 4097 - width, 0)), run()), [2, 4, 1])

    def test_nothing_of_a_row_is_stored_before_both_pages_are_open(self):
        before = pattern(128, 50)
        for low, high, stopped in ((2, 0, 2), (2, 1, 2), (0, 2, 1), (1, 2, 1)):
            calls = [put(1984, before), page(1, low), page(2, high), shape(make_shape(t0=(64, 1)))]
            given = ask(*calls, start(move(STORE, 0, 2016, 0)), run(), get(1984, 128))[5:]
            self.assertEqual(given, [[2, stopped, 1], [128] + before])

    def test_nothing_of_a_row_is_loaded_before_both_pages_are_open(self):
        data = pattern(128)
        for low, high, stopped in ((1, 0, 2), (2, 0, 2), (0, 1, 1)):
            calls = [put(1984, data), shape(make_shape(t0=(64, 1))), start(move(LOAD, 0, 1984, 0)), run()]
            calls += [page(1, low), page(2, high), start(move(LOAD, 0, 2016, 0)), run()]
            self.assertEqual(ask(*calls, tile(0))[7:], [[2, stopped, 0], [1, 64] + data[:64]])

    def test_it_goes_on_where_it_stopped(self):
        data = pattern(64)
        sizes = make_shape(t0=(8, 8))
        calls = [put(992, data), shape(sizes), page(1, 0), start(move(LOAD, 0, 992, 8)), run()]
        given = ask(*calls, shown(), tile(0), run(), run(0), page(1, 1), run(3), shown(), run(0), run(1), tile(0))[4:]
        self.assertEqual(given[0], [2, 1, 0])
        self.assertEqual(given[1], [0, 4] + sizes[1:])
        self.assertEqual(given[2], [8, 8] + data[:32] + [0] * 32)
        # It looks anew; a row that can't be paid isn't looked at.
        self.assertEqual(given[3:6], [[2, 1, 0], [1], [0]])
        self.assertEqual(given[6:8], [[1], [0, 7] + sizes[1:]])
        self.assertEqual(given[8:], [[1], [0], [8, 8] + data])

    def test_a_row_over_two_pages_that_are_opened_one_by_one(self):
        sizes = shape(make_shape(t0=(64, 1)))
        calls = [page(8, 0), page(9, 0), sizes, start(move(STORE, 0, 9 * 1024 - 1, 0)), run()]
        given = ask(*calls, page(8, 1), run(), page(8, 2), run(), page(9, 2), page(8, 0), run(), page(8, 2), run())[4:]
        self.assertEqual(given[0::1], [[2, 8, 1], [0], [2, 8, 1], [0], [2, 9, 1], [0], [0], [2, 8, 1], [0], [0]])

    def test_closed_pages_cost_nothing(self):
        sizes = shape(make_shape(t0=(1, 2)))
        calls = [sizes, page(0, 0), start([[4, 0, 0, 0, 0], END]), run(2), run(2), page(0, 1), run(2)]
        self.assertEqual(ask(*calls)[3:], [[2, 0, 0], [2, 0, 0], [0], [0]])

    def test_a_row_that_is_a_fault_is_one_before_pages_are_looked_at(self):
        sizes = shape(make_shape(t0=(64, 1)))
        for kind in (LOAD, STORE):
            self.assertEqual(last(sizes, page(15, 0), start(move(kind, 0, 16321, 0)), run()), [3, 4])


if __name__ == "__main__":
    unittest.main()
