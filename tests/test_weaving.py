"""The calls weave and unweave."""

import random
import unittest

from samples import LOOKS
from support import ask, last, make_shape, pattern, put, run, shape, start, unweave, weave

MOST = 2 ** 32 - 1
BYTE_KINDS = (0, 1, 2, 3)


class Weave(unittest.TestCase):
    def test_a_group(self):
        for kind in BYTE_KINDS:
            self.assertEqual(last(weave(kind, 4, 2, [1, 2, 3, 4, 5, 6, 7, 8])), [8, 1, 3, 5, 7, 2, 4, 6, 8])
            self.assertEqual(last(weave(kind, 4, 1, [1, 2, 3, 4])), [4, 1, 2, 3, 4])

    def test_a_group_of_pairs(self):
        data = [1, 2, 3, 4, 5, 6, 7, 8]
        self.assertEqual(last(weave(4, 2, 2, data)), [8, 1, 2, 5, 6, 3, 4, 7, 8])

    def test_rows_that_are_no_multiple(self):
        for kind in BYTE_KINDS:
            self.assertEqual(last(weave(kind, 1, 1, [9])), [4, 9, 0, 0, 0])
            self.assertEqual(last(weave(kind, 3, 2, [1, 2, 3, 4, 5, 6])), [8, 1, 3, 5, 0, 2, 4, 6, 0])
            self.assertEqual(last(weave(kind, 5, 1, [1, 2, 3, 4, 5])), [8, 1, 2, 3, 4, 5, 0, 0, 0])
        self.assertEqual(last(weave(4, 1, 1, [8, 9])), [4, 8, 9, 0, 0])
        self.assertEqual(last(weave(4, 3, 1, [1, 2, 3, 4, 5, 6])), [8, 1, 2, 3, 4, 5, 6, 0, 0])

    def test_by_its_definition(self):
        for kind, unit in ((0, 1), (3, 1), (4, 2)):
            group = 4 // unit
            for rows, cols in ((1, 64), (64, 1), (6, 7), (13, 5), (61, 3)):
                data = pattern(rows * cols * unit)
                given = last(weave(kind, rows, cols, data))
                high = -(-rows // group)
                self.assertEqual(given[0], high * cols * 4)
                for i in range(high):
                    for j in range(cols):
                        for q in range(group):
                            at = 1 + ((i * cols + j) * group + q) * unit
                            row = group * i + q
                            from_row = data[(row * cols + j) * unit:][:unit] if row < rows else [0] * unit
                            self.assertEqual(given[at:at + unit], from_row)

    def test_the_largest(self):
        self.assertEqual(last(weave(0, 64, 64, [7] * 4096)), [4096] + [7] * 4096)
        self.assertEqual(last(weave(4, 64, 64, [7] * 8192)), [8192] + [7] * 8192)
        self.assertEqual(last(weave(4, 63, 64, [7] * 8064))[0], 8192)
        self.assertEqual(last(weave(0, 61, 64, [7] * 3904))[0], 4096)


class Unweave(unittest.TestCase):
    def test_groups(self):
        for kind in BYTE_KINDS:
            self.assertEqual(last(unweave(kind, 4, 2, [1, 3, 5, 7, 2, 4, 6, 8])), [8, 1, 2, 3, 4, 5, 6, 7, 8])
        self.assertEqual(last(unweave(4, 2, 2, [1, 2, 5, 6, 3, 4, 7, 8])), [8, 1, 2, 3, 4, 5, 6, 7, 8])

    def test_what_stands_past_the_last_row(self):
        for kind in BYTE_KINDS:
            self.assertEqual(last(unweave(kind, 1, 1, [9, 1, 2, 3])), [1, 9])
            self.assertEqual(last(unweave(kind, 3, 2, [1, 3, 5, 99, 2, 4, 6, 255])), [6, 1, 2, 3, 4, 5, 6])
            self.assertEqual(last(unweave(kind, 5, 1, [1, 2, 3, 4, 5, 6, 7, 8])), [5, 1, 2, 3, 4, 5])
        self.assertEqual(last(unweave(4, 1, 1, [8, 9, 7, 7])), [2, 8, 9])
        self.assertEqual(last(unweave(4, 3, 1, [1, 2, 3, 4, 5, 6, 9, 9])), [6, 1, 2, 3, 4, 5, 6])

    def test_there_and_back(self):
        source = random.Random(70)
        for turn in range(60):
            kind, rows, cols = source.randrange(5), source.randrange(1, 65), source.choice((1, 2, 5, 64))
            data = [source.randrange(256) for q in range(rows * cols * (2 if kind == 4 else 1))]
            woven = last(weave(kind, rows, cols, data))[1:]
            self.assertEqual(last(unweave(kind, rows, cols, woven)), [len(data)] + data)


class Refusals(unittest.TestCase):
    def test_kinds(self):
        for kind in (5, 6, MOST):
            self.assertEqual(ask(weave(kind, 4, 1, [0] * 4), unweave(kind, 4, 1, [0] * 4)), [[-1], [-1]])
            self.assertEqual(ask(weave(kind, 4, 1, [0] * 8), unweave(kind, 4, 1, [0] * 8)), [[-1], [-1]])

    def test_rows_and_cols(self):
        for kind in range(5):
            unit = 2 if kind == 4 else 1
            wrong = ((0, 0), (0, 1), (1, 0), (65, 1), (1, 65), (68, 1), (66, 1), (MOST, 1), (1, MOST), (0, MOST))
            for rows, cols in wrong:
                high = -(-rows // (4 // unit)) * (4 // unit)
                count = rows * cols * unit
                given = weave(kind, rows, cols, [0] * (count if count <= 8192 else 0))
                count = high * cols * unit
                other = unweave(kind, rows, cols, [0] * (count if count <= 8192 else 0))
                self.assertEqual(ask(given, other), [[-1], [-1]])

    def test_not_as_many_bytes(self):
        sizes = ((0, 3, 5, 15, 20), (3, 4, 5, 20, 20), (4, 3, 5, 30, 40), (4, 4, 1, 8, 8))
        for kind, rows, cols, unwoven, woven in sizes:
            for count in range(50):
                self.assertEqual(last(weave(kind, rows, cols, [1] * count)) != [-1], count == unwoven)
                self.assertEqual(last(unweave(kind, rows, cols, [1] * count)) != [-1], count == woven)
        self.assertEqual(ask(weave(0, 64, 64, [0] * 8192), unweave(0, 64, 64, [0] * 8192)), [[-1], [-1]])
        self.assertEqual(ask(weave(4, 64, 64, [0] * 4096), unweave(4, 64, 64, [0] * 4096)), [[-1], [-1]])

    def test_nothing_changes(self):
        before = [put(0, pattern(99)), shape(make_shape(1, t0=(4, 4))), start([[4, 0, 0, 0, 0], [0] * 5]), run(1)]
        good = (weave(0, 2, 2, [1, 2, 3, 4]), unweave(0, 1, 1, [1, 2, 3, 4]))
        for call in good + (weave(9, 1, 1, []), unweave(0, 0, 0, [])):
            self.assertEqual(ask(*before, call, *LOOKS)[5:], ask(*before, *LOOKS)[4:])


if __name__ == "__main__":
    unittest.main()
