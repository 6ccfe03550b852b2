"""Which jobs can be done, as plan and product tell alike."""

import unittest

from support import ask, last, plan, product, run, shown, stand, start

MOST = 2 ** 32 - 1
END = [0, 0, 0, 0, 0]
NAMES = ("kind", "m", "n", "k", "a", "b", "c", "a_by", "b_by", "c_by")


def job_of(**numbers):
    """A small job, kind 0 with A at 0, B at 4,096 and C at 8,192, with some of its numbers others."""
    given = {"kind": 0, "m": 2, "n": 3, "k": 8, "a": 0, "b": 4096, "c": 8192, "a_by": 8, "b_by": 12, "c_by": 12}
    given.update(numbers)
    return [given[name] for name in NAMES]


class Jobs(unittest.TestCase):
    def assert_done(self, **numbers):
        job = job_of(**numbers)
        self.assertGreater(last(plan(job))[0], 0, job)
        self.assertEqual(last(product(0, job))[0], job[2], job)

    def assert_refused(self, **numbers):
        job = job_of(**numbers)
        self.assertEqual(ask(plan(job), product(0, job)), [[-1], [-1]], job)

    def test_kinds(self):
        for kind in range(5):
            self.assert_done(kind=kind, a_by=16)
        for kind in (5, 6, MOST):
            self.assert_refused(kind=kind)

    def test_rows(self):
        for m in (1, 2, 16, 17, 63, 64):
            self.assert_done(m=m)
        for m in (0, 65, 128, MOST):
            self.assert_refused(m=m)

    def test_columns(self):
        for n in (1, 16, 17, 64):
            self.assert_done(n=n, c_by=4 * n)
        for n in (0, 65, MOST):
            self.assert_refused(n=n, c_by=4 * n)

    def test_depths(self):
        for kind in range(4):
            for k in (4, 8, 60, 64, 68, 252, 256):
                self.assert_done(kind=kind, k=k)
            for k in (0, 1, 2, 3, 5, 6, 7, 62, 255, 257, 258, 260, MOST, MOST - 3):
                self.assert_refused(kind=kind, k=k)
        for k in (2, 4, 6, 62, 254, 256):
            self.assert_done(kind=4, k=k)
        for k in (0, 1, 3, 255, 257, 258, MOST - 1):
            self.assert_refused(kind=4, k=k)

    def test_not_ten_numbers(self):
        job = job_of()
        for wrong in ([], job[:9], job + [0], job + [0] * 6, [0] * 16):
            self.assertEqual(ask(plan(wrong), product(0, wrong)), [[-1], [-1]])

    def test_the_end_of_a(self):
        # Its last row's last byte is the ground's.
        self.assert_done(a=16384 - 8 - 8, a_by=8)
        self.assert_refused(a=16384 - 8 - 8 + 1, a_by=8)
        self.assert_done(a=16384 - 8, a_by=0)
        self.assert_refused(a=16384 - 7, a_by=0)
        self.assert_done(a=16000, a_by=376)
        self.assert_refused(a=16000, a_by=377)
        self.assert_done(kind=4, a=16384 - 16, a_by=0)
        self.assert_refused(kind=4, a=16384 - 15, a_by=0)
        self.assert_refused(a=MOST)
        self.assert_refused(a_by=MOST)
        self.assert_done(a_by=MOST, m=1)

    def test_the_end_of_b(self):
        self.assert_done(b=16384 - 24)
        self.assert_refused(b=16384 - 23)
        self.assert_done(b=16384 - 12, b_by=0)
        self.assert_refused(b=16384 - 11, b_by=0)
        self.assert_done(b=16000, b_by=372)
        self.assert_refused(b=16000, b_by=373)
        self.assert_done(kind=4, b=16384 - 36 - 12)
        self.assert_refused(kind=4, b=16384 - 36 - 11)
        self.assert_refused(b=MOST)
        self.assert_refused(b_by=MOST)
        self.assert_done(b_by=MOST, k=4)
        self.assert_refused(b_by=MOST, k=4, kind=4)
        self.assert_done(b_by=MOST, k=2, kind=4)

    def test_the_end_of_c(self):
        self.assert_done(c=16384 - 24)
        self.assert_refused(c=16384 - 23)
        self.assert_done(c=16000, c_by=372)
        self.assert_refused(c=16000, c_by=373)
        self.assert_refused(c=MOST)
        self.assert_refused(c_by=MOST)
        self.assert_done(c_by=MOST, m=1)

    def test_places_are_not_wrapped(self):
        self.assert_refused(a=2 ** 31, a_by=2 ** 31)
        self.assert_refused(c=MOST - 11, c_by=24)
        self.assert_refused(m=33, a_by=2 ** 27)

    def test_rows_of_c_may_not_overlap(self):
        self.assert_done(c_by=12)
        self.assert_done(c_by=13)
        for c_by in (0, 4, 11):
            self.assert_refused(c_by=c_by)
            self.assert_done(c_by=c_by, m=1)

    def test_rows_of_a_and_b_may(self):
        for by in (0, 1, 7):
            self.assert_done(a_by=by)
            self.assert_done(b_by=by)

    def test_a_and_b_may_overlap(self):
        self.assert_done(a=4096)
        self.assert_done(a=4097, b=4096)

    def test_c_just_touches_the_others_or_overlaps(self):
        # C's stretch is 24 bytes, A's 16, B's 24.
        self.assert_done(a=8192 - 16)
        self.assert_refused(a=8192 - 15)
        self.assert_done(a=8192 + 24)
        self.assert_refused(a=8192 + 23)
        self.assert_done(b=8192 - 24)
        self.assert_refused(b=8192 - 23)
        self.assert_done(b=8192 + 24)
        self.assert_refused(b=8192 + 23)
        self.assert_refused(a=8192)
        self.assert_refused(b=8192)
        self.assert_refused(a=8196)
        self.assert_refused(b=8196)

    def test_what_lies_between_rows_counts(self):
        # A lies between C's rows, B between A's, C between A's and between B's.
        self.assert_refused(c_by=1000, a=8500)
        self.assert_refused(c_by=1000, b=8500)
        self.assert_refused(a=8000, a_by=1000)
        self.assert_refused(b=8000, b_by=1000)
        self.assert_done(a=4000, a_by=1000)
        self.assert_refused(c=0, a=12, c_by=28, a_by=28)

    def test_one_row_has_no_stride(self):
        self.assert_done(m=1, c_by=1000, a=8204)
        self.assert_refused(m=1, c_by=1000, a=8203)
        self.assert_done(m=1, a=8184, a_by=1000)
        self.assert_done(k=4, b=8180, b_by=1000)

    def test_the_whole_ground(self):
        # 63 rows of 252 bytes, 63 of 4, 63 of 4.
        self.assert_done(m=63, n=1, k=252, a=4, a_by=252, b=15880, b_by=4, c=16132, c_by=4)
        self.assert_refused(m=63, n=1, k=252, a=4, a_by=252, b=15880, b_by=4, c=16133, c_by=4)
        self.assert_refused(m=63, n=1, k=252, a=4, a_by=252, b=15881, b_by=4, c=16132, c_by=4)
        self.assert_refused(m=64, n=1, k=256, a=0, a_by=256, b=0, b_by=0, c=64 * 256, c_by=4)
        self.assert_done(m=63, n=64, k=4, a=0, a_by=4, b=0, b_by=0, c=256, c_by=256)
        self.assert_refused(m=64, n=64, k=4, a=0, a_by=4, b=0, b_by=0, c=256, c_by=256)

    def test_a_refusal_keeps_the_program(self):
        refused = plan(job_of(m=0))
        self.assertEqual(ask(refused, run(), stand(), shown()), [[-1], [-9], [-9], [0] + [0] * 17])
        calls = [start([[11, 0, 0, 0, 5], [11, 1, 0, 0, 5], END]), run(1)]
        self.assertEqual(last(*calls, refused, stand()), [1, 1, 1, 0, 5, 0, 0, 0, 0, 0, 0, 0])


if __name__ == "__main__":
    unittest.main()
