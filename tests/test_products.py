"""The call product: a row of a job's product on the ground as it is (P1)."""

import random
import unittest

from samples import LOOKS, any_job, ground_for, job_depth
from support import ask, dot_words, get, half_bits, half_bytes, last, make_shape, page, plan, product, put, run, shape
from support import single_bits, stand, word_bytes, words

MOST = 2 ** 32 - 1
SMALL = [0, 2, 2, 4, 0, 100, 200, 4, 8, 8]
PAIRS = [4, 1, 1, 2, 0, 100, 200, 4, 4, 4]


def rows_at(ground, place, by, height, width):
    return [ground[place + i * by:place + i * by + width] for i in range(height)]


def product_row(ground, job, i):
    """Row i of the product by its definition, where all of it is in range."""
    kind, m, n, k, a, b, c, a_by, b_by, c_by = job
    depth = job_depth(kind, k)
    x = [words(rows_at(ground, c, c_by, m, 4 * n)[i])]
    y = rows_at(ground, a, a_by, m, 4 * depth)[i]
    z = rows_at(ground, b, b_by, depth, 4 * n)
    for first in range(0, depth, 16):
        x = dot_words(kind, x, [y[4 * first:4 * first + 64]], z[first:first + 16])
    return x[0]


class Small(unittest.TestCase):
    def test_by_hand(self):
        calls = [put(0, [1, 2, 3, 4, 5, 6, 7, 8]), put(100, [1, 1, 1, 1, 1, 0, 0, 2])]
        calls += [put(200, word_bytes([10, 20, 30, 40]))]
        self.assertEqual(last(*calls, product(0, SMALL)), [2, 10 + 10, 20 + 9])
        self.assertEqual(last(*calls, product(1, SMALL)), [2, 30 + 26, 40 + 21])

    def test_signs(self):
        calls = [put(0, [255, 0, 0, 0]), put(100, [254, 0, 0, 0, 2, 0, 0, 0])]
        wanted = ([2, 2, 2 ** 32 - 2], [2, 2 ** 32 - 254, 2 ** 32 - 2], [2, 2 ** 32 - 510, 510], [2, 64770, 510])
        for kind in range(4):
            self.assertEqual(last(*calls, product(0, [kind] + SMALL[1:])), wanted[kind])

    def test_sums_wrap(self):
        calls = [put(0, [1, 0, 0, 0]), put(100, [1, 0, 0, 0, 255, 0, 0, 0]), put(200, word_bytes([MOST, 0]))]
        self.assertEqual(last(*calls, product(0, SMALL)), [2, 0, MOST])

    def test_no_such_row(self):
        for i in (2, 3, MOST):
            self.assertEqual(last(product(i, SMALL)), [-1])
        self.assertEqual(last(product(1, SMALL)), [2, 0, 0])
        self.assertEqual(last(product(63, [0, 64, 1, 4, 0, 1000, 2000, 0, 0, 4])), [1, 0])
        self.assertEqual(last(product(64, [0, 64, 1, 4, 0, 1000, 2000, 0, 0, 4])), [-1])

    def test_strides_of_0(self):
        # All of A's rows are the same, and all of B's.
        job = [3, 3, 1, 8, 0, 100, 200, 0, 0, 4]
        calls = [put(0, [1, 2, 3, 4, 5, 6, 7, 8]), put(100, [1, 1, 1, 1]), put(200, word_bytes([0, 1, 2]))]
        for i in range(3):
            self.assertEqual(last(*calls, product(i, job)), [1, 36 + i])

    def test_room_between_rows(self):
        job = [3, 2, 1, 8, 0, 100, 200, 20, 10, 30]
        calls = [put(0, [1] * 8), put(20, [2] * 8), put(100, [1, 0, 0, 0, 9, 9]), put(110, [0, 0, 0, 5, 9, 9])]
        calls += [put(200, word_bytes([7]) + [9] * 9), put(230, word_bytes([8]) + [9] * 9)]
        self.assertEqual(ask(*calls, product(0, job), product(1, job))[-2:], [[1, 7 + 6], [1, 8 + 12]])

    def test_matrices_at_the_end_of_the_ground(self):
        for name in (4, 5, 6):
            job = [3, 1, 1, 4, 0, 100, 200, 0, 0, 0]
            job[name] = 16380
            calls = [put(job[4], [1, 2, 3, 4]), put(job[5], [5, 6, 7, 8]), put(job[6], [9, 0, 0, 0])]
            self.assertEqual(last(*calls, product(0, job)), [1, 9 + 70])


class Range(unittest.TestCase):
    ONE = half_bits(1.0)

    def calls(self, y, z, c):
        return [put(0, half_bytes(y)), put(100, half_bytes(z)), put(200, word_bytes([c]))]

    def test_pairs(self):
        calls = self.calls([half_bits(1.5), half_bits(2.0)], [half_bits(3.0), half_bits(-0.5)], single_bits(10.0))
        self.assertEqual(last(*calls, product(0, PAIRS)), [1, single_bits(13.5)])

    def test_each_number_that_it_takes(self):
        good = self.calls([self.ONE, 0], [self.ONE, 0], 0)
        self.assertEqual(last(*good, product(0, PAIRS)), [1, single_bits(1.0)])
        for y, z, c in (
            ([1, 0], [0, 0], 0), ([0, 0x8001], [0, 0], 0), ([0, 0], [168 << 7, 0], 0), ([0, 0], [0, 0x7F80], 0),
            ([0, 0], [0, 0], 1), ([0, 0], [0, 0], 228 << 23), ([0, 0], [0, 0], (27 << 23) - 1),
        ):
            self.assertEqual(last(*self.calls(y, z, c), product(0, PAIRS)), [-3])
        for y, z, c in (([87 << 7, 0x8000], [0, 0], 0), ([0, 0], [0xD3FF, 0], 0), ([0, 0], [0, 0], (228 << 23) - 1)):
            self.assertEqual(len(last(*self.calls(y, z, c), product(0, PAIRS))), 2)

    def test_kinds_of_bytes_have_no_range(self):
        for kind in range(4):
            self.assertEqual(last(*self.calls([1, 1], [1, 1], 1), product(0, [kind, 1, 1, 4] + PAIRS[4:]))[0], 1)

    def test_numbers_that_it_does_not_take(self):
        # Of A and C row 0 and 1 are in range or not by themselves; between rows anything may stand.
        job = [4, 2, 1, 2, 0, 100, 200, 6, 4, 6]
        calls = [put(0, [0, 0, 0, 0, 1, 0, 0, 0, 0, 0, 1, 0]), put(104, [1, 0])]
        calls += [put(200, [0, 0, 0, 0, 1, 0, 0, 0, 0, 0, 1])]
        self.assertEqual(ask(*calls, product(0, job), product(1, job))[-2:], [[1, 0], [1, 0]])
        self.assertEqual(ask(*calls, put(6, [1]), product(0, job), product(1, job))[-2:], [[1, 0], [-3]])
        self.assertEqual(ask(*calls, put(206, [1]), product(0, job), product(1, job))[-2:], [[1, 0], [-3]])
        self.assertEqual(ask(*calls, put(0, [1]), product(0, job), product(1, job))[-2:], [[-3], [1, 0]])
        self.assertEqual(ask(*calls, put(100, [1]), product(0, job), product(1, job))[-2:], [[-3], [-3]])

    def test_of_one_of_the_numbers_alone(self):
        for j in range(17):
            job = [4, 1, 17, 2, 0, 100, 200, 0, 0, 0]
            self.assertEqual(last(put(100 + 4 * j, [1]), product(0, job)), [-3])
            self.assertEqual(last(put(200 + 4 * j, [1]), product(0, job)), [-3])
        self.assertEqual(last(put(100 + 4 * 17, [1]), put(200 + 4 * 17, [1]), product(0, job)), [17] + [0] * 17)

    def behind_a_block(self, depth):
        """C is 2^-103 - 2^-80, and to it 2^-80 is added by B's row 0: the sum is too small to be in range."""
        small = half_bits(2.0 ** -40)
        job = [4, 1, 1, 2 * depth, 0, 200, 400, 0, 4, 0]
        calls = [put(0, half_bytes([small])), put(200, half_bytes([small]))]
        return calls + [put(400, word_bytes([single_bits(2.0 ** -103 - 2.0 ** -80)])), product(0, job)]

    def test_one_that_comes_to_be_so_behind_a_block(self):
        sum_of_both = single_bits(2.0 ** -103)
        self.assertEqual(last(*self.behind_a_block(1)), [1, sum_of_both])
        self.assertEqual(last(*self.behind_a_block(16)), [1, sum_of_both])
        self.assertEqual(last(*self.behind_a_block(17)), [-3])
        self.assertEqual(last(*self.behind_a_block(32)), [-3])

    def test_one_that_comes_to_be_too_large(self):
        # To the largest number below 2^101 products of almost 2^82 are added.
        most = (228 << 23) - 1
        large = half_bytes([(168 << 7) - 1] * 2)
        behind = dot_words(4, [[most]], [large * 16], [large] * 16)[0][0]
        self.assertGreater(behind, most)
        for depth, answer in ((16, [1, behind]), (17, [-3])):
            job = [4, 1, 1, 2 * depth, 0, 200, 300, 0, 0, 0]
            calls = [put(0, large * 17), put(200, large), put(300, word_bytes([most]))]
            self.assertEqual(last(*calls, product(0, job)), answer)

    def test_no_such_job_or_row_comes_first(self):
        self.assertEqual(last(put(0, [1]), product(1, PAIRS)), [-1])
        self.assertEqual(last(put(0, [1]), product(0, PAIRS[:9])), [-1])


class Chance(unittest.TestCase):
    def test_all_kinds(self):
        source = random.Random(44)
        good = [0] * 5
        for turn in range(100):
            job = any_job(source, turn % 5, most=18)
            ground = ground_for(source, job)
            i = source.choice((0, job[1] - 1, source.randrange(job[1])))
            answer = last(put(0, ground[:8192]), put(8192, ground[8192:]), product(i, job))
            if answer != [-3]:
                self.assertEqual(answer, [job[2]] + product_row(ground, job, i))
                good[job[0]] += 1
        self.assertEqual(good[:4], [20] * 4)
        self.assertGreater(good[4], 5)

    def test_the_largest(self):
        source = random.Random(46)
        for kind, k in ((0, 256), (3, 252), (4, 256), (4, 254)):
            job = [kind, 1, 16, k, 0, 512, 16320, 0, 64, 0]
            ground = ground_for(source, job)
            puts = [put(0, ground[:8192]), put(8192, ground[8192:])]
            self.assertEqual(last(*puts, product(0, job)), [16] + product_row(ground, job, 0))
        job = [1, 2, 64, 12, 0, 24, 1000, 12, 256, 256]
        ground = ground_for(source, job)
        puts = [put(0, ground[:8192]), put(8192, ground[8192:])]
        self.assertEqual(last(*puts, product(1, job)), [64] + product_row(ground, job, 1))


class NothingChanges(unittest.TestCase):
    def test_it_changes_nothing(self):
        data = [q % 256 for q in range(300)]
        before = [put(0, data), shape(make_shape(3, t0=(4, 4))), plan(SMALL), run(3)]
        for call in (product(0, SMALL), product(1, SMALL), product(2, SMALL), product(0, PAIRS), product(0, [])):
            self.assertEqual(ask(*before, call, *LOOKS)[5:], ask(*before, *LOOKS)[4:])
            self.assertEqual(ask(*before, call, run(), *LOOKS)[5:], ask(*before, run(), *LOOKS)[4:])

    def test_pages_do_not_matter(self):
        closed = [page(p, 0) for p in range(16)]
        self.assertEqual(last(put(0, [1]), put(100, [3]), *closed, product(0, SMALL)), [2, 3, 0])

    def test_the_ground_as_it_is(self):
        calls = [put(0, [1]), put(100, [3]), product(0, SMALL), put(200, [9]), product(0, SMALL), plan(SMALL), run()]
        given = ask(*calls, product(0, SMALL), get(200, 4), stand())
        self.assertEqual([given[2], given[4], given[7]], [[2, 3, 0], [2, 12, 0], [2, 15, 0]])
        self.assertEqual(given[8], [4, 12, 0, 0, 0])


if __name__ == "__main__":
    unittest.main()
