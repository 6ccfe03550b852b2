"""The call dot: one row of a dot, exact as told (P1), the same that a run and a product make."""

import random
import unittest

from samples import LOOKS, any_halves, any_single
from support import ask, dot, dot_words, half_bits, half_bytes, last, make_shape, pattern, product, put, run, shape
from support import single_bits, start, tile, word_bytes, words

MOST = 2 ** 32 - 1
ONE = half_bits(1.0)
NO_C = [0] * 16


def rows_of_z(rows, q, value):
    """So many rows of 64 bytes, all zeros but at one place."""
    data = [0] * (64 * rows)
    data[q] = value
    return data


class Bytes(unittest.TestCase):
    def test_by_hand(self):
        # z(0, 4 j + q): the first number takes the first four bytes of a row, the next the next four.
        b = [1, 2, 3, 4, 5, 6, 7, 8] + [0] * 55 + [9]
        given = last(dot(3, 1, list(range(100, 116)), [1, 10, 100, 2], b))
        wanted = [100 + 1 + 20 + 300 + 8, 101 + 5 + 60 + 700 + 16] + list(range(102, 115)) + [115 + 18]
        self.assertEqual(given, [16] + wanted)

    def test_rows_of_z(self):
        b = [1] * 64 + [2] * 64 + [3] * 64
        self.assertEqual(last(dot(0, 3, NO_C, [1, 1, 1, 1] + [2] * 4 + [5] * 4, b)), [16] + [4 + 16 + 60] * 16)

    def test_signs(self):
        for kind, y_sign, z_sign in ((0, 1, 1), (1, 1, 0), (2, 0, 1), (3, 0, 0)):
            for y in (0, 1, 127, 128, 255):
                for z in (0, 1, 127, 128, 255):
                    product_of_both = (y - 256 * (y_sign and y > 127)) * (z - 256 * (z_sign and z > 127))
                    given = last(dot(kind, 1, [5] * 16, [0, y, 0, 0], rows_of_z(1, 61, z)))
                    self.assertEqual(given, [16] + [5] * 15 + [(5 + product_of_both) % 2 ** 32])

    def test_sums_wrap(self):
        self.assertEqual(last(dot(3, 16, [MOST] * 16, [255] * 64, [255] * 1024)), [16] + [64 * 255 * 255 - 1] * 16)
        self.assertEqual(last(dot(1, 16, NO_C, [128] * 64, [255] * 1024)), [16] + [2 ** 32 - 64 * 128 * 255] * 16)

    def test_no_range(self):
        for kind in range(4):
            self.assertEqual(last(dot(kind, 1, [1] * 16, [1, 0, 0, 0], [0] * 64)), [16] + [1] * 16)


class Pairs(unittest.TestCase):
    def first_number(self, c, y, z):
        """y and z are pairs of halves, one for each row of z."""
        b = []
        for pair in z:
            b += half_bytes(pair) + [0] * 60
        given = last(dot(4, len(z), [c] + [0] * 15, half_bytes([half for pair in y for half in pair]), b))
        self.assertEqual(given[2:], [0] * 15)
        return given[1]

    def test_by_hand(self):
        y = [(half_bits(1.5), half_bits(2.0)), (half_bits(-4.0), ONE)]
        z = [(half_bits(3.0), half_bits(0.5)), (half_bits(0.25), half_bits(8.0))]
        self.assertEqual(self.first_number(single_bits(100.0), y, z), single_bits(100.0 + 4.5 + 1.0 - 1.0 + 8.0))

    def test_each_sum_is_rounded_in_its_order(self):
        # 1 + 2^-24 is rounded to 1 (the even one) each time; 2^-24 twice first is 2^-23, and isn't.
        small = half_bits(2.0 ** -12)
        tiny, one = (small, 0), (ONE, 0)
        self.assertEqual(self.first_number(0, [one, tiny, tiny], [one, tiny, tiny]), single_bits(1.0))
        self.assertEqual(self.first_number(0, [tiny, tiny, one], [tiny, tiny, one]), single_bits(1.0 + 2.0 ** -23))

    def test_the_two_sums_are_kept_apart(self):
        small = half_bits(2.0 ** -12)
        y = [(ONE, small), (0, small)]
        self.assertEqual(self.first_number(0, y, y), single_bits(1.0 + 2.0 ** -23))

    def test_the_inner_sum_comes_before_the_outer(self):
        small = half_bits(2.0 ** -12)
        one = single_bits(1.0)
        self.assertEqual(self.first_number(one, [(small, small)], [(small, small)]), single_bits(1.0 + 2.0 ** -23))
        self.assertEqual(self.first_number(one, [(small, 0)], [(small, 0)]), one)

    def test_an_exact_zero_is_plus_zero(self):
        minus = half_bits(-1.0)
        self.assertEqual(self.first_number(single_bits(1.0), [(ONE, 0)], [(minus, 0)]), 0)
        # All numbers of x become sums: a zero with a sign loses it.
        self.assertEqual(last(dot(4, 1, [2 ** 31] * 16, [0, 128, 0, 128], [0] * 64)), [16] + [0] * 16)

    def test_what_is_not_in_range(self):
        for half in (1, 127, (87 << 7) - 1, 168 << 7, 255 << 7, 0x7FFF, 0x8001, 0xFFFF, 0x8000 | 168 << 7):
            for q in (0, 1, 30, 31):
                a = half_bytes([0] * q + [half] + [0] * (31 - q))
                self.assertEqual(last(dot(4, 16, NO_C, a, [0] * 1024)), [-3], hex(half))
            for q in (0, 31, 32, 511):
                b = half_bytes([0] * q + [half] + [0] * (511 - q))
                self.assertEqual(last(dot(4, 16, NO_C, [0] * 64, b)), [-3], hex(half))
        for single in (1, 2 ** 31 + 1, (27 << 23) - 1, 228 << 23, 255 << 23, MOST, 2 ** 31 - 1):
            for j in range(16):
                c = [0] * j + [single] + [0] * (15 - j)
                self.assertEqual(last(dot(4, 1, c, [0] * 4, [0] * 64)), [-3], hex(single))

    def test_what_is(self):
        for half in (0, 0x8000, 87 << 7, (168 << 7) - 1, 0x8000 | 87 << 7, 0x8000 | (168 << 7) - 1):
            self.assertEqual(last(dot(4, 1, NO_C, half_bytes([half, half]), [0] * 64)), [16] + NO_C)
            self.assertEqual(last(dot(4, 1, NO_C, [0] * 4, half_bytes([half] * 32))), [16] + NO_C)
        for single in (27 << 23, (228 << 23) - 1, 2 ** 31 + (27 << 23), 2 ** 31 + (228 << 23) - 1):
            self.assertEqual(last(dot(4, 1, [single] * 16, [0] * 4, [0] * 64)), [16] + [single] * 16)

    def test_what_comes_out_may_be_out_of_range(self):
        small = half_bits(2.0 ** -40)
        c = single_bits(2.0 ** -103 - 2.0 ** -80)
        self.assertEqual(self.first_number(c, [(small, 0)], [(small, 0)]), single_bits(2.0 ** -103))


class Refusals(unittest.TestCase):
    def test_kinds(self):
        for kind in (5, 6, MOST):
            self.assertEqual(last(dot(kind, 1, NO_C, [0] * 4, [0] * 64)), [-1])

    def test_rows(self):
        for kind in range(5):
            self.assertEqual(last(dot(kind, 0, NO_C, [], [])), [-1])
            self.assertEqual(last(dot(kind, 17, NO_C, [0] * 68, [0] * 1088)), [-1])
            self.assertEqual(last(dot(kind, 32, NO_C, [0] * 128, [0] * 2048)), [-1])
            self.assertEqual(last(dot(kind, MOST, NO_C, [0] * 4, [0] * 64)), [-1])
            self.assertEqual(last(dot(kind, 16, NO_C, [0] * 64, [0] * 1024)), [16] + NO_C)

    def test_lengths(self):
        for kind in range(5):
            for count in (0, 1, 15, 17, 32, 64):
                self.assertEqual(last(dot(kind, 1, [0] * count, [0] * 4, [0] * 64)), [-1])
            for count in (0, 3, 5, 8, 256):
                self.assertEqual(last(dot(kind, 1, NO_C, [0] * count, [0] * 64)), [-1])
            for count in (0, 63, 65, 128, 2048):
                self.assertEqual(last(dot(kind, 1, NO_C, [0] * 4, [0] * count)), [-1])

    def test_they_come_before_the_range(self):
        self.assertEqual(last(dot(4, 1, [1] * 15, [0] * 4, [0] * 64)), [-1])
        self.assertEqual(last(dot(4, 1, [1] * 16, [0] * 4, [0] * 63)), [-1])

    def test_nothing_changes(self):
        before = [put(0, pattern(99)), shape(make_shape(1, t0=(4, 4))), start([[4, 0, 0, 0, 0], [0] * 5]), run(1)]
        for call in (dot(0, 1, NO_C, [1] * 4, [1] * 64), dot(4, 1, [1] * 16, [1] * 4, [1] * 64), dot(9, 1, [], [], [])):
            self.assertEqual(ask(*before, call, *LOOKS)[5:], ask(*before, *LOOKS)[4:])


class AllTheWays(unittest.TestCase):
    """A run, a product and the call make the same of the same numbers: that of the definition."""

    def by_a_run(self, kind, rows, c, a, b):
        sizes = make_shape(t0=(64, 1), t1=(4 * rows, 1), t2=(64, rows))
        steps = [[11, 7, 0, 0, 64], [1, 0, 0, 0, 0], [4, 0, 0, 7, 0], [4, 1, 0, 7, 64], [4, 2, 0, 7, 128]]
        steps += [[6 + kind, 0, 1, 2, 0], [0] * 5]
        calls = [put(0, word_bytes(c) + a + [0] * (64 - len(a)) + b), start(steps, [sizes]), run()]
        answer, contents = ask(*calls, tile(0))[2:]
        return [-3] if answer == [3, 5] else [16] + words(contents[2:])

    def by_a_product(self, kind, rows, c, a, b):
        k = 2 * rows if kind == 4 else 4 * rows
        job = [kind, 1, 16, k, 100, 200, 0, 0, 64, 0]
        return last(put(0, word_bytes(c)), put(100, a), put(200, b), product(0, job))

    def test_numbers_drawn_by_chance(self):
        source = random.Random(80)
        refused = 0
        for turn in range(150):
            kind, rows = turn % 5, source.choice((1, 2, 3, 15, 16))
            c = [any_single(source) for j in range(16)]
            a, b = any_halves(source, 2 * rows), any_halves(source, 32 * rows)
            if source.randrange(5) == 0:
                b[source.randrange(len(b))] = source.randrange(256)
            given = last(dot(kind, rows, c, a, b))
            if given == [-3]:
                refused += 1
                self.assertEqual(kind, 4)
            else:
                z = [b[64 * q:64 * q + 64] for q in range(rows)]
                self.assertEqual(given, [16] + dot_words(kind, [c], [a], z)[0])
            self.assertEqual(self.by_a_run(kind, rows, c, a, b), given)
            self.assertEqual(self.by_a_product(kind, rows, c, a, b), given)
        self.assertGreater(refused, 0)
        self.assertLess(refused, 15)


if __name__ == "__main__":
    unittest.main()
