"""The faults 1 to 5, in the order in which they are looked for."""

import unittest

from support import TOP, ask, get, half_bits, half_bytes, last, make_shape, page, pattern, put
from support import run, shape, shown, single_bits, start, tile, word_bytes

END = [0, 0, 0, 0, 0]
SIZES = make_shape(2, t0=(4, 2), t1=(4, 2), t2=(4, 1))


def answer_of(steps, shapes=(), rows=4000, before=()):
    return last(*before, start(steps, shapes), run(rows))


class NoStep(unittest.TestCase):
    def test_no_such_step(self):
        self.assertEqual(answer_of([]), [3, 1])
        self.assertEqual(answer_of([], rows=0), [3, 1])
        self.assertEqual(answer_of([[11, 0, 0, 0, 0]]), [3, 1])
        self.assertEqual(answer_of([[14, 0, 0, 0, 1]] * 2), [1])
        self.assertEqual(answer_of([[14, 0, 0, 0, 2]] * 2), [3, 1])
        self.assertEqual(answer_of([[11, 0, 0, 0, 0]] * 1024), [3, 1])

    def test_kinds(self):
        for kind in (15, 16, 255, 2 ** 32, TOP - 1):
            self.assertEqual(answer_of([[kind, 0, 0, 0, 0], END]), [3, 1])
            self.assertEqual(answer_of([[kind, 0, 0, 0, 0], END], rows=0), [3, 1])

    def test_x_y_and_z_in_all_kinds(self):
        for kind in range(15):
            for q in (1, 2, 3):
                for wrong in (8, 16, TOP - 1):
                    step = [kind, 0, 1, 2, 0]
                    step[q] = wrong
                    given = answer_of([step, END], [SIZES], before=[shape(SIZES)])
                    self.assertEqual(given, [3, 1], step)

    def test_7_is_allowed(self):
        for kind in (0, 2, 11, 12, 13):
            self.assertEqual(answer_of([[kind, 7, 7, 7, 0], END]), [0])

    def test_no_shape_number_v(self):
        self.assertEqual(answer_of([[1, 0, 0, 0, 0], END]), [3, 1])
        for v in (2, 17, TOP - 1):
            self.assertEqual(answer_of([[1, 0, 0, 0, v], END], [SIZES] * 2), [3, 1])
        self.assertEqual(answer_of([[1, 0, 0, 0, 1], END], [SIZES] * 2), [0])


class NoShape(unittest.TestCase):
    WRONG = (
        make_shape(16), make_shape(0, t0=(65, 1)), make_shape(0, t7=(1, 17)), make_shape(0, t3=(0, 1)),
        make_shape(0, t4=(1, 0)), [2 ** 32 - 1] * 17,
    )

    def test_a_shape_that_is_none(self):
        for wrong in self.WRONG:
            calls = [shape(SIZES), start([[1, 0, 0, 0, 0], END], [wrong]), run(), shown(), run(0)]
            self.assertEqual(ask(*calls)[2:], [[3, 2], [0] + SIZES, [3, 2]])
            self.assertEqual(answer_of([[1, 0, 0, 0, 0], END], [wrong], rows=0), [3, 2])

    def test_only_shapes_that_are_set_are_judged(self):
        for wrong in self.WRONG:
            self.assertEqual(answer_of([[1, 0, 0, 0, 1], END], [wrong, SIZES]), [0])


class NoFit(unittest.TestCase):
    def test_tiles_that_are_not_there(self):
        for kind in (3, 4, 5):
            for rows in (0, 4000):
                self.assertEqual(answer_of([[kind, 3, 0, 0, 99999], END], rows=rows, before=[shape(SIZES)]), [3, 3])
                self.assertEqual(answer_of([[kind, 0, 0, 0, 0], END], rows=rows), [3, 3])

    def test_it_is_looked_at_before_the_start_row(self):
        self.assertEqual(answer_of([[4, 1, 0, 0, 0], END], before=[shape([15] + [0] * 16)]), [3, 3])

    def test_the_start_row_stays(self):
        for step in ([3, 5, 0, 0, 0], [4, 5, 0, 0, 0], [6, 0, 1, 1, 0]):
            given = ask(shape(SIZES), start([step, END]), run(), shown())[2:]
            self.assertEqual(given, [[3, 3], [0] + SIZES])

    def test_dots_that_fit(self):
        for sizes in (
            {"t0": (4, 1), "t1": (4, 1), "t2": (4, 1)},
            {"t0": (64, 16), "t1": (64, 16), "t2": (64, 16)},
            {"t0": (8, 3), "t1": (20, 3), "t2": (8, 5)},
        ):
            for kind in range(6, 11):
                for rows, answer in ((0, [1]), (1, [0])):
                    before = [shape(make_shape(**sizes))]
                    self.assertEqual(answer_of([[kind, 0, 1, 2, 0], END], rows=rows, before=before), answer)

    def test_dots_that_do_not_fit(self):
        for sizes in (
            {"t1": (4, 1), "t2": (4, 1)},
            {"t0": (4, 1), "t2": (4, 1)},
            {"t0": (4, 1), "t1": (4, 1)},
            {"t0": (4, 2), "t1": (4, 1), "t2": (4, 1)},
            {"t0": (4, 1), "t1": (4, 2), "t2": (4, 1)},
            {"t0": (8, 1), "t1": (4, 1), "t2": (4, 1)},
            {"t0": (4, 1), "t1": (4, 1), "t2": (8, 1)},
            {"t0": (6, 1), "t1": (4, 1), "t2": (6, 1)},
            {"t0": (1, 1), "t1": (4, 1), "t2": (1, 1)},
            {"t0": (2, 1), "t1": (4, 1), "t2": (2, 1)},
            {"t0": (4, 1), "t1": (8, 1), "t2": (4, 1)},
            {"t0": (4, 1), "t1": (4, 1), "t2": (4, 2)},
            {"t0": (4, 1), "t1": (5, 1), "t2": (4, 1)},
        ):
            for kind in range(6, 11):
                for rows in (0, 4000):
                    before = [shape(make_shape(**sizes))]
                    self.assertEqual(answer_of([[kind, 0, 1, 2, 0], END], rows=rows, before=before), [3, 3])

    def test_dots_of_tiles_that_are_the_same(self):
        before = [shape([0] + [4] * 8 + [1] * 8)]
        for kind in range(6, 11):
            for x, y, z in ((0, 0, 1), (0, 1, 0), (1, 0, 0), (3, 3, 3)):
                self.assertEqual(answer_of([[kind, x, y, z, 0], END], before=before), [3, 3])
            self.assertEqual(answer_of([[kind, 7, 5, 6, 0], END], before=before), [0])


class Outside(unittest.TestCase):
    def test_at_once(self):
        for kind in (4, 5):
            for rows in (0, 4000):
                for place in (16381, 16384, 2 ** 32, TOP - 1):
                    before = [shape(make_shape(t0=(4, 1)))]
                    self.assertEqual(answer_of([[kind, 0, 0, 0, place], END], rows=rows, before=before), [3, 4])

    def test_rows_so_far_are_done(self):
        data = pattern(32)
        steps = [[11, 1, 0, 0, 8], [4, 0, 0, 1, 16360], END]
        sizes = make_shape(t0=(8, 5))
        given = ask(put(16352, data), shape(sizes), start(steps), run(), shown(), tile(0), run(0))[3:]
        self.assertEqual(given, [[3, 4], [0, 3] + sizes[1:], [5, 8] + data[8:32] + [0] * 16, [3, 4]])

    def test_rows_so_far_are_stored(self):
        sizes = make_shape(t0=(8, 5))
        steps = [[11, 1, 0, 0, 8], [5, 0, 0, 1, 16360], END]
        given = ask(put(16352, pattern(32)), shape(sizes), start(steps), run(), shown(), get(16352, 32))[3:]
        self.assertEqual(given, [[3, 4], [0, 3] + sizes[1:], [32] + pattern(32)[:8] + [0] * 24])

    def test_whether_it_could_be_paid_or_not(self):
        steps = [[11, 1, 0, 0, 8], [4, 0, 0, 1, 16360], END]
        calls = [shape(make_shape(t0=(8, 5))), start(steps)]
        self.assertEqual(last(*calls, run(3)), [1])
        self.assertEqual(last(*calls, run(4)), [3, 4])


class NotInRange(unittest.TestCase):
    def answer(self, x, y, z, rows=4000, kind=10):
        """What a dot of x, y, z answers: 2 by 1 numbers, 2 by 2 halves, 1 by 2 halves."""
        steps = [[11, 1, 0, 0, 4], [4, 0, 0, 1, 0], [4, 1, 0, 1, 8], [4, 2, 0, 1, 16], [kind, 0, 1, 2, 0], END]
        calls = [put(0, word_bytes(x) + half_bytes(y) + half_bytes(z))]
        calls += [shape(make_shape(t0=(4, 2), t1=(4, 2), t2=(4, 1))), start(steps), run(6)]
        given = ask(*calls, run(rows), tile(0))
        self.assertEqual(given[3] in ([1], [3, 5]), True)
        if given[4] == [3, 5]:
            self.assertEqual(given[5], [2, 4] + word_bytes(x))
        return given[4]

    def test_halves(self):
        good = [0, 0x8000, 87 << 7, 0x8000 | 87 << 7, (167 << 7) + 127, 0x8000 | (167 << 7) + 127, half_bits(1.0)]
        bad = [1, 0x8001, 127, (87 << 7) - 1, 0x8000 | (87 << 7) - 1, 168 << 7, 0x8000 | 168 << 7, 255 << 7, 0x7FFF, 0xFFFF]
        self.assertEqual((half_bits(2.0 ** -40), half_bits(2.0 ** 41)), (87 << 7, 168 << 7))
        for number in good + bad:
            for q in range(4):
                y = [half_bits(1.0)] * 4
                y[q] = number
                answer = [0] if number in good else [3, 5]
                self.assertEqual(self.answer([0, 0], y, [0, 0]), answer, hex(number))
            for q in range(2):
                z = [half_bits(1.0)] * 2
                z[q] = number
                self.assertEqual(self.answer([0, 0], [0] * 4, z), answer, hex(number))

    def test_singles(self):
        least = single_bits(2.0 ** -100)
        most = single_bits(2.0 ** 101)
        sign = 2 ** 31
        self.assertEqual((least, most), (27 << 23, 228 << 23))
        good = [0, sign, least, sign + least, most - 1, sign + most - 1]
        bad = [1, sign + 1, least - 1, sign + least - 1, most, sign + most, 255 << 23, 2 ** 32 - 1, 2 ** 31 - 1]
        for number in good + bad:
            for q in range(2):
                x = [0, 0]
                x[q] = number
                self.assertEqual(self.answer(x, [0] * 4, [0, 0]), [0] if number in good else [3, 5], hex(number))

    def test_whether_it_could_be_paid_or_not(self):
        self.assertEqual(self.answer([1, 0], [0] * 4, [0, 0], rows=0), [3, 5])
        self.assertEqual(self.answer([0, 0], [0] * 4, [0, 0], rows=0), [1])

    def test_other_kinds_have_no_range(self):
        for kind in range(6, 10):
            self.assertEqual(self.answer([1, 2 ** 32 - 1], [1] * 4, [0xFFFF, 0x7F80], kind=kind), [0])

    def test_fit_is_looked_at_before(self):
        steps = [[4, 0, 0, 0, 0], [10, 0, 1, 2, 0], END]
        before = [put(0, [1, 0, 0, 0]), shape(make_shape(t0=(4, 1), t1=(4, 1), t2=(4, 2)))]
        self.assertEqual(answer_of(steps, before=before), [3, 3])

    def test_a_sum_may_leave_the_range_and_is_a_fault_then(self):
        # 2^-80 is added to 2^-103 - 2^-80: that's in range, the sum isn't any more.
        y = half_bits(2.0 ** -40)
        steps = [[4, 0, 0, 0, 0], [4, 1, 0, 0, 4], [4, 2, 0, 0, 8], [10, 0, 1, 2, 0], [10, 0, 1, 2, 0], END]
        least = single_bits(-(2.0 ** -80) + 2.0 ** -103)
        data = word_bytes([least]) + half_bytes([y, 0, y, 0])
        calls = [put(0, data), shape(make_shape(t0=(4, 1), t1=(4, 1), t2=(4, 1))), start(steps), run(4), tile(0), run()]
        given = ask(*calls)[3:]
        self.assertEqual(given, [[3, 5], [1, 4] + word_bytes([single_bits(2.0 ** -103)]), [3, 5]])


class FaultsEnd(unittest.TestCase):
    def test_steps_before_are_done(self):
        steps = [[1, 0, 0, 0, 0], [15, 0, 0, 0, 0]]
        self.assertEqual(ask(start(steps, [SIZES]), run(), shown())[1:], [[3, 1], [0] + SIZES])

    def test_a_fault_stays_one(self):
        calls = [start([[3, 0, 0, 0, 0], END]), run(), shape(SIZES), page(0, 0), put(0, [1]), run(), run(0)]
        self.assertEqual(ask(*calls)[1::4], [[3, 3], [3, 3]])
        self.assertEqual(last(*calls), [3, 3])

    def test_a_step_is_looked_at_each_time(self):
        steps = [[11, 1, 0, 0, 3], [3, 0, 0, 0, 0], [14, 1, 0, 0, 1], END]
        calls = [shape(make_shape(t0=(1, 1))), start(steps)]
        self.assertEqual(last(*calls, run()), [0])
        self.assertEqual(last(*calls, run(3), shape([0] * 17), run()), [3, 3])
        self.assertEqual(last(shape([0] * 17), start(steps), run(1)), [3, 3])
        self.assertEqual(last(*calls, run(1), shape([0] * 17), shape(make_shape(t0=(1, 1))), run()), [0])


if __name__ == "__main__":
    unittest.main()
