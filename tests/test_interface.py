"""How calls stand in the list, how answers do, and what is kept (nothing)."""

import inspect
import unittest

from quiltwork.machine import answers
from support import ask, dot, dry, get, last, make_shape, page, plan, product, put, run, shape, shown, stand, start
from support import tile, unweave, weave

END = [0, 0, 0, 0, 0]
JOB = [0, 2, 1, 4, 0, 4, 8, 4, 0, 4]


def flat(*calls):
    return [number for call in calls for number in call]


def every_call():
    steps = [[1, 0, 0, 0, 0], [4, 0, 0, 0, 0], [5, 0, 0, 0, 8], END]
    return flat(
        page(3, 1), put(0, [1, 2, 3]), get(0, 4), shape(make_shape(2, t1=(3, 1))), shown(), tile(1),
        start(steps, [make_shape(t0=(2, 2))]), run(2), stand(), dry(1), run(), run(), dry(9), tile(9), page(16, 0),
        plan(JOB), dry(4), run(5), stand(), product(1, JOB), product(2, JOB), weave(4, 1, 2, [1, 2, 3, 4]),
        unweave(0, 3, 1, [1, 2, 3, 4]), dot(4, 1, [0] * 16, [128, 63, 0, 0], [128, 63] * 32), dot(0, 0, [], [], []),
        run(),
    )


class Interface(unittest.TestCase):
    def test_the_name_and_its_argument(self):
        self.assertEqual(list(inspect.signature(answers).parameters), ["calls"])

    def test_how_answers_stand(self):
        self.assertEqual(answers([5]), [18] + [0] * 18)
        self.assertEqual(answers([1, 0, 0]), [1, 0])
        self.assertEqual(answers([1, 16, 0, 6, 8]), [1, -1, 1, -1])
        self.assertEqual(answers([2, 1, 2, 7, 8, 3, 0, 4]), [1, 0, 5, 4, 0, 7, 8, 0])
        self.assertEqual(answers([6, 0, 8, 1, 4, 1, 0]), [2, 0, 0, 1, -9, 1, -2])
        self.assertEqual(answers([7, 5, 0, 0, 0, 0, 0, 0, 8, 0]), [1, 1, 1, 0])
        self.assertEqual(answers([7, 0, 0, 8, 9]), [1, 0, 2, 3, 1])

    def test_how_the_later_answers_stand(self):
        self.assertEqual(answers([9, 10, 0]), [1, -9, 1, -9])
        self.assertEqual(answers([7, 0, 0, 9, 10, 7]), [1, 0, 12, 1] + [0] * 11 + [6, 3, 1, 0, 0, 0, 0])
        self.assertEqual(answers([11, 0, 12, 0, 0]), [1, -1, 1, -1])
        self.assertEqual(answers([11, 10] + JOB + [10, 5]), [1, 10, 5, 1, 4, 1, 1, 0])
        self.assertEqual(answers([2, 0, 5, 1, 2, 3, 4, 5, 12, 0, 10] + JOB), [1, 0, 2, 1, 5])
        self.assertEqual(answers([13, 0, 1, 1, 1, 7, 14, 0, 1, 1, 4, 7, 8, 9, 9]), [5, 4, 7, 0, 0, 0, 2, 1, 7])
        calls = [15, 0, 1, 16] + [3] * 16 + [4, 1, 0, 0, 0, 64] + [2] * 64
        self.assertEqual(answers(calls + [15, 0, 0, 0, 0, 0]), [17, 16] + [5] * 16 + [1, -1])

    def test_rows_that_are_empty(self):
        self.assertEqual(answers([2, 5, 0, 3, 5, 0, 4, 0, 7, 0, 0]), [1, 0, 1, 0, 1, -2, 1, 0])
        calls = [11, 0, 12, 3, 0, 13, 0, 1, 1, 0, 14, 0, 1, 1, 0, 15, 0, 1, 0, 0, 0]
        self.assertEqual(answers(calls + [3, 9, 0]), [1, -1] * 5 + [1, 0])

    def test_kinds_of_answers(self):
        given = answers(every_call())
        self.assertIs(type(given), list)
        self.assertEqual({type(number) for number in given}, {int})

    def test_stores_and_loads_are_told_by_whole_numbers(self):
        sizes = shape(make_shape(t0=(1, 1)))
        for kind in (4, 5):
            given = answers(flat(page(0, 0), sizes, start([[kind, 0, 0, 0, 0]]), run()))
            self.assertEqual(given[-3:], [2, 0, kind - 4])
            self.assertIs(type(given[-1]), int)

    def test_what_is_handed_in_is_not_changed(self):
        calls = every_call()
        copy = list(calls)
        answers(calls)
        self.assertEqual(calls, copy)

    def test_what_is_given_back_is_new(self):
        calls = every_call()
        first = answers(calls)
        kept = list(first)
        first[:] = [5] * len(first)
        self.assertEqual(answers(calls), kept)

    def test_nothing_is_kept(self):
        calls = every_call()
        first = answers(calls)
        self.assertEqual(answers(calls), first)
        self.assertEqual(answers([5, 8, 0, 3, 0, 4]), [18] + [0] * 18 + [1, -9, 5, 4, 0, 0, 0, 0])
        self.assertEqual(ask(shape(make_shape(t0=(1, 1))), start([[5, 0, 0, 0, 3072], END]), run())[-1], [0])

    def test_sixty_calls(self):
        self.assertEqual(ask(*[shown()] * 60), [[0] + [0] * 17] * 60)

    def test_long_lists_and_long_runs(self):
        steps = [[12, 0, 0, 0, 1]] * 1023 + [[14, 1, 0, 0, 0]]
        calls = [put(0, [1] * 8192), start(steps, [[0] * 17] * 100)] + [run(4000)] * 50
        self.assertLessEqual(len(flat(*calls)), 16000)
        self.assertEqual(last(*calls), [1])


if __name__ == "__main__":
    unittest.main()
