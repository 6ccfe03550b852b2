"""Dots that a run does are exact as told (P1)."""

import random
import unittest

from support import ask, dot_words, half_bits, half_bytes, last, make_shape, pair_number, put, rows_of, run
from support import shape, shown, single_bits, start, tile, word_bytes, words

END = [0, 0, 0, 0, 0]
X_AT = 0
Y_AT = 1024
Z_AT = 2048


def dot_calls(kind, x, y, z):
    """Calls that load rows of x, y, z (bytes) as tiles 3, 1, 6, and do a dot of them."""
    sizes = make_shape(5, t3=(len(x[0]), len(x)), t1=(len(y[0]), len(y)), t6=(len(z[0]), len(z)))
    steps = [[11, 7, 0, 0, 64], [3, 3, 0, 0, 0]]
    steps += [[4, 3, 0, 7, X_AT], [4, 1, 0, 7, Y_AT], [4, 6, 0, 7, Z_AT], [6 + kind, 3, 1, 6, 0], END]
    places = [put(at + 64 * i, row) for at, rows in ((X_AT, x), (Y_AT, y), (Z_AT, z)) for i, row in enumerate(rows)]
    data = [0] * 3072
    for call in places:
        data[call[1]:call[1] + call[2]] = call[3:]
    return [put(0, data), shape(sizes), start(steps, [sizes]), run()]


def dot_answer(kind, x, y, z):
    """The numbers of x behind the dot, row by row."""
    given = last(*dot_calls(kind, x, y, z), tile(3))
    return [words(row) for row in rows_of(given[2:], len(x[0]))]


def one_pair(c, y, z):
    """x(0, 0) behind a dot of pairs: c is a single's bits, y and z rows of pairs of halves."""
    y_bytes = half_bytes([number for pair in y for number in pair])
    given = dot_answer(4, [word_bytes([c])], [y_bytes], [half_bytes(pair) for pair in z])
    return given[0][0]


def first_halves(values):
    """Pairs whose second numbers are 0."""
    return [(half_bits(value), 0) for value in values]


class Bytes(unittest.TestCase):
    def number(self, kind, c, y, z):
        return dot_answer(kind, [word_bytes([c])], [y], rows_of(z, 4))[0][0]

    def test_signs(self):
        for kind, y_sign, z_sign in ((0, 1, 1), (1, 1, 0), (2, 0, 1), (3, 0, 0)):
            for a in (0, 1, 127, 128, 255):
                for b in (0, 1, 127, 128, 255):
                    signed_a = a - 256 if y_sign and a > 127 else a
                    signed_b = b - 256 if z_sign and b > 127 else b
                    given = self.number(kind, 1000, [0, a, 0, 0], [9, b, 9, 9])
                    self.assertEqual(given, (1000 + signed_a * signed_b) % 2 ** 32, (kind, a, b))

    def test_four_bytes_at_a_time(self):
        y = [1, 2, 3, 4, 5, 6, 7, 8]
        z = [10, 20, 30, 40, 50, 60, 70, 80]
        for kind in range(4):
            self.assertEqual(self.number(kind, 7, y, z), 7 + sum(a * b for a, b in zip(y, z)))

    def test_which_bytes_are_multiplied(self):
        # Each y(0, 4 k + q) alone meets z(k, 4 j + q).
        z = [[16 * k + q + 1 for q in range(8)] for k in range(3)]
        for k in range(3):
            for q in range(4):
                y = [0] * 12
                y[4 * k + q] = 1
                expected = [z[k][q], z[k][4 + q]]
                self.assertEqual(dot_answer(3, [[0] * 8], [y], z), [expected])

    def test_sums_wrap(self):
        self.assertEqual(self.number(3, 2 ** 32 - 1, [1, 0, 0, 0], [1, 0, 0, 0]), 0)
        self.assertEqual(self.number(3, 2 ** 32 - 1, [255, 0, 0, 0], [255, 0, 0, 0]), 65024)
        self.assertEqual(self.number(0, 0, [255, 0, 0, 0], [1, 0, 0, 0]), 2 ** 32 - 1)
        self.assertEqual(self.number(0, 2 ** 31 - 1, [1, 0, 0, 0], [1, 0, 0, 0]), 2 ** 31)
        self.assertEqual(self.number(0, 2 ** 31, [255, 0, 0, 0], [1, 0, 0, 0]), 2 ** 31 - 1)

    def test_the_largest_sums(self):
        full = [[255] * 64] * 16
        low = [[128] * 64] * 16
        for kind, y, z, product in (
            (3, full, full, 255 * 255), (0, low, low, 128 * 128), (1, low, full, -128 * 255), (2, full, low, -128 * 255),
        ):
            given = dot_answer(kind, [[0] * 64] * 16, y, z)
            self.assertEqual(given, [[64 * product % 2 ** 32] * 16] * 16)

    def test_any_dots(self):
        source = random.Random(11)
        for kind in range(4):
            for height, count, depth in ((1, 1, 1), (16, 16, 16), (16, 1, 2), (1, 16, 16), (3, 5, 7)):
                x = [[source.randrange(256) for q in range(4 * count)] for i in range(height)]
                y = [[source.randrange(256) for q in range(4 * depth)] for i in range(height)]
                z = [[source.randrange(256) for q in range(4 * count)] for k in range(depth)]
                expected = dot_words(kind, [words(row) for row in x], y, z)
                self.assertEqual(dot_answer(kind, x, y, z), expected)


class Pairs(unittest.TestCase):
    def sum_of(self, values, c=0.0):
        """c and s0 of these values (each times 1), as a single's bits."""
        return one_pair(single_bits(c), first_halves(values), first_halves([1.0] * len(values)))

    def test_plain_products(self):
        self.assertEqual(one_pair(0, first_halves([3.0]), first_halves([5.0])), single_bits(15.0))
        self.assertEqual(one_pair(single_bits(0.5), first_halves([3.0]), first_halves([-5.0])), single_bits(-14.5))
        both = [(half_bits(2.0), half_bits(3.0)), (half_bits(5.0), half_bits(7.0))]
        other = [(half_bits(11.0), half_bits(13.0)), (half_bits(17.0), half_bits(19.0))]
        self.assertEqual(one_pair(single_bits(1.0), both, other), single_bits(1.0 + 22 + 39 + 85 + 133))

    def test_which_pairs_are_multiplied(self):
        z = [half_bytes([half_bits(float(10 * k + q + 1)) for q in range(4)]) for k in range(3)]
        for k in range(3):
            for q in range(2):
                y = [0] * 6
                y[2 * k + q] = half_bits(1.0)
                expected = [single_bits(10.0 * k + q + 1), single_bits(10.0 * k + q + 3)]
                self.assertEqual(dot_answer(4, [[0] * 8], [half_bytes(y)], z), [expected])

    def test_ties_go_to_the_even_one(self):
        big = 2.0 ** 24
        for values, total in (
            ([big, 1.0], big), ([big, 3.0], big + 4), ([-big, -1.0], -big), ([-big, -3.0], -big - 4),
            ([big, 2.0, 1.0], big + 4), ([-big, -2.0, -1.0], -big - 4), ([big, -0.5], big), ([big, -1.5], big - 2),
            ([-big, 0.5], -big), ([-big, 1.5], -big + 2),
        ):
            self.assertEqual(self.sum_of(values), single_bits(total), values)

    def test_near_ties_do_not(self):
        big = 2.0 ** 24
        one = half_bits(1.0)
        # big + (1 + 2^-7) (1 + 2^-7) lies just above the half-way, big + (1 - 2^-8)^2 just below.
        above = half_bits(1.0 + 2.0 ** -7)
        below = half_bits(1.0 - 2.0 ** -8)
        pairs = [(half_bits(big), 0), (above, 0)]
        self.assertEqual(one_pair(0, pairs, [(one, 0), (above, 0)]), single_bits(big + 2))
        pairs = [(half_bits(big), 0), (below, 0)]
        self.assertEqual(one_pair(0, pairs, [(one, 0), (below, 0)]), single_bits(big))

    def test_a_far_bit_beside_a_tie_counts(self):
        big = single_bits(2.0 ** 24)
        ones = [(half_bits(1.0), half_bits(1.0))]
        for rest, total in ((2.0 ** -23, 2.0 ** 24 + 2), (-(2.0 ** -24), 2.0 ** 24)):
            given = one_pair(big, [(half_bits(1.0), half_bits(rest))], ones)
            self.assertEqual(given, single_bits(total))
            given = one_pair(big + 2 ** 31, [(half_bits(-1.0), half_bits(-rest))], ones)
            self.assertEqual(given, single_bits(-total))

    def test_the_order_of_rows_matters(self):
        big = 2.0 ** 24
        self.assertEqual(self.sum_of([big, 1.0, 1.0]), single_bits(big))
        self.assertEqual(self.sum_of([1.0, 1.0, big]), single_bits(big + 2))
        self.assertEqual(self.sum_of([big, 1.0, -big]), 0)
        self.assertEqual(self.sum_of([big, -big, 1.0]), single_bits(1.0))

    def test_there_are_two_sums(self):
        big = half_bits(2.0 ** 24)
        one = half_bits(1.0)
        ones = [(one, one)] * 2
        # s0 = 2^24, s1 = 2: in one sum the two ones would be lost.
        self.assertEqual(one_pair(0, [(big, one), (0, one)], ones), single_bits(2.0 ** 24 + 2))
        # s0 = 2^24 + 1, rounded to 2^24; s1 = 1, the inner sum is rounded to 2^24.
        self.assertEqual(one_pair(0, [(big, 0), (one, one)], ones), single_bits(2.0 ** 24))

    def test_the_inner_sum_is_rounded_before_the_outer(self):
        big = half_bits(2.0 ** 24)
        one = half_bits(1.0)
        ones = [(one, one)]
        # (2^24 + 1) is 2^24 when rounded; then c = 1 is lost once more. At once it would be 2^24 + 2.
        self.assertEqual(one_pair(single_bits(1.0), [(big, one)], ones), single_bits(2.0 ** 24))
        # c + s0 first would lose s1's one.
        self.assertEqual(one_pair(single_bits(-(2.0 ** 24)), [(big, one)], ones), 0)
        minus = half_bits(-(2.0 ** 24))
        self.assertEqual(one_pair(single_bits(1.0), [(big, minus)], ones), single_bits(1.0))

    def test_rounding_up_to_a_power_of_two(self):
        most = 2.0 ** 24 - 1
        one = first_halves([1.0])
        self.assertEqual(one_pair(single_bits(most), first_halves([0.5]), one), single_bits(2.0 ** 24))
        self.assertEqual(one_pair(single_bits(-most), first_halves([-0.5]), one), single_bits(-(2.0 ** 24)))
        self.assertEqual(one_pair(single_bits(most - 1), first_halves([0.5]), one), single_bits(most - 1))

    def test_zeros(self):
        minus_zero = 0x8000
        one = half_bits(1.0)
        for c in (0, 2 ** 31):
            for a in (0, minus_zero):
                for b in (0, minus_zero, one, one + 0x8000):
                    self.assertEqual(one_pair(c, [(a, a)], [(b, b)]), 0)
        self.assertEqual(one_pair(single_bits(-1.0), [(one, 0)], [(one, 0)]), 0)
        self.assertEqual(one_pair(single_bits(1.0), [(one, 0)], [(one + 0x8000, 0)]), 0)
        self.assertEqual(one_pair(2 ** 31, [(one, one)], [(one, one + 0x8000)]), 0)

    def test_the_ends_of_the_range(self):
        most = (167 << 7) + 127
        least = 87 << 7
        singles = [27 << 23, (228 << 23) - 1, (27 << 23) + 1, 0]
        for c in singles + [number + 2 ** 31 for number in singles]:
            for y in ([most, most], [least, least], [least + 1, most], [most + 0x8000, least]):
                for z in ([most, most], [least, least], [least + 1 + 0x8000, most + 0x8000]):
                    for depth in (1, 2, 16):
                        given = one_pair(c, [tuple(y)] * depth, [z] * depth)
                        self.assertEqual(given, pair_number(c, y * depth, [z] * depth))

    def test_small_rests(self):
        # What is left may be as small as 2^-123, from 2^-100 and a single's last bit above it.
        product = single_bits(-(2.0 ** -80))
        least = half_bits(2.0 ** -40)
        self.assertEqual(one_pair(product - 1, [(least, 0)], [(least, 0)]), single_bits(2.0 ** -104))
        self.assertEqual(one_pair(product + 1, [(least, 0)], [(least, 0)]), single_bits(-(2.0 ** -103)))

    def half(self, source, spread):
        if source.randrange(12) == 0:
            return source.choice((0, 0x8000))
        return source.randrange(2) << 15 | source.randrange(127 - spread, 128 + spread) << 7 | source.randrange(128)

    def single(self, source, spread):
        if source.randrange(8) == 0:
            return source.choice((0, 2 ** 31))
        exponent = source.randrange(127 - spread, 128 + spread)
        return source.randrange(2) << 31 | exponent << 23 | source.randrange(2 ** 23)

    def test_any_dots(self):
        source = random.Random(4)
        for spread in (0, 2, 12, 40):
            for height, count, depth in ((1, 1, 1), (2, 16, 16), (16, 2, 5), (3, 4, 16)):
                wide = min(100, 2 * spread + 8)
                x = [word_bytes([self.single(source, wide) for j in range(count)]) for i in range(height)]
                y = [half_bytes([self.half(source, spread) for k in range(2 * depth)]) for i in range(height)]
                z = [half_bytes([self.half(source, spread) for j in range(2 * count)]) for k in range(depth)]
                expected = dot_words(4, [words(row) for row in x], y, z)
                self.assertEqual(dot_answer(4, x, y, z), expected)


class AllKinds(unittest.TestCase):
    def test_only_x_is_changed(self):
        for kind in range(5):
            x, y, z = [[0] * 8] * 2, [[0, 63] * 6] * 2, [[128, 64] * 4] * 3
            given = ask(*dot_calls(kind, x, y, z), tile(3), tile(1), tile(6))[4:]
            self.assertNotEqual(given[0], [2, 8] + [0] * 16)
            self.assertEqual(given[1], [2, 12] + sum(y, []))
            self.assertEqual(given[2], [3, 8] + sum(z, []))

    def test_the_start_row_is_0_then(self):
        sizes = make_shape(9, t0=(4, 1), t1=(4, 1), t2=(4, 1))
        for kind in range(5):
            calls = [shape(sizes), start([[6 + kind, 0, 1, 2, 77], END])]
            self.assertEqual(ask(*calls, run(0), shown())[2:], [[1], [0] + sizes])
            self.assertEqual(ask(*calls, run(1), shown())[2:], [[0], [0, 0] + sizes[1:]])

    def test_dots_add_up(self):
        sizes = make_shape(t0=(4, 1), t1=(4, 1), t2=(4, 1))
        steps = [[11, 1, 0, 0, 5], [4, 1, 0, 0, 0], [4, 2, 0, 0, 4], [9, 0, 1, 2, 0], [14, 1, 0, 0, 3], END]
        calls = [put(0, [1, 2, 3, 4, 200, 0, 0, 1]), shape(sizes), start(steps), run()]
        self.assertEqual(words(last(*calls, tile(0))[2:]), [5 * 204])


if __name__ == "__main__":
    unittest.main()
