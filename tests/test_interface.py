"""How calls stand in the list, how answers do, and what is kept (nothing)."""

import inspect
import unittest

from quiltwork.machine import answers
from support import ask, get, last, make_shape, page, put, run, shape, shown, start, tile

END = [0, 0, 0, 0, 0]


def flat(*calls):
    return [number for call in calls for number in call]


def every_call():
    steps = [[1, 0, 0, 0, 0], [4, 0, 0, 0, 0], [5, 0, 0, 0, 8], END]
    return flat(
        page(3, 1), put(0, [1, 2, 3]), get(0, 4), shape(make_shape(2, t1=(3, 1))), shown(), tile(1),
        start(steps, [make_shape(t0=(2, 2))]), run(2), run(), run(), tile(9), page(16, 0),
    )


class Interface(unittest.TestCase):
    def test_the_name_and_its_argument(self):
        self.assertEqual(list(inspect.signature(answers).parameters), ["calls"])

    def test_how_answers_stand(self):
        self.assertEqual(answers([5]), [18] + [0] * 18)
        self.assertEqual(answers([1, 0, 0]), [1, 0])
        self.assertEqual(answers([1, 16, 0, 6, 8]), [1, -1, 1, -1])
        self.assertEqual(answers([2, 1, 2, 7, 8, 3, 0, 4]), [1, 0, 5, 4, 0, 7, 8, 0])
        self.assertEqual(answers([6, 0, 8, 1, 4, 1, 0]), [2, 0, 0, 1, -9, 1, -2])
        self.assertEqual(answers([7, 5, 0, 0, 0, 0, 0, 0, 8, 0]), [1, 1, 1, 0])
        self.assertEqual(answers([7, 0, 0, 8, 9]), [1, 0, 2, 3, 1])

    def test_rows_that_are_empty(self):
        self.assertEqual(answers([2, 5, 0, 3, 5, 0, 4, 0, 7, 0, 0]), [1, 0, 1, 0, 1, -2, 1, 0])

    def test_kinds_of_answers(self):
        given = answers(every_call())
        self.assertIs(type(given), list)
        self.assertEqual({type(number) for number in given}, {int})

    def test_stores_and_loads_are_told_by_whole_numbers(self):
        sizes = shape(make_shape(t0=(1, 1)))
        for kind in (4, 5):
            given = answers(flat(page(0, 0), sizes, start([[kind, 0, 0, 0, 0]]), run()))
            self.assertEqual(given[-3:], [2, 0, kind - 4])
            self.assertIs(type(given[-1]), int)

    def test_what_is_handed_in_is_not_changed(self):
        calls = every_call()
        copy = list(calls)
        answers(calls)
        self.assertEqual(calls, copy)

    def test_what_is_given_back_is_new(self):
        calls = every_call()
        first = answers(calls)
        kept = list(first)
        first[:] = [5] * len(first)
        self.assertEqual(answers(calls), kept)

    def test_nothing_is_kept(self):
        calls = every_call()
        first = answers(calls)
        self.assertEqual(answers(calls), first)
        self.assertEqual(answers([5, 8, 0, 3, 0, 4]), [18] + [0] * 18 + [1, -9, 5, 4, 0, 0, 0, 0])
        self.assertEqual(ask(shape(make_shape(t0=(1, 1))), start([[5, 0, 0, 0, 3072], END]), run())[-1], [0])

    def test_sixty_calls(self):
        self.assertEqual(ask(*[shown()] * 60), [[0] + [0] * 17] * 60)

    def test_long_lists_and_long_runs(self):
        steps = [[12, 0, 0, 0, 1]] * 1023 + [[14, 1, 0, 0, 0]]
        calls = [put(0, [1] * 8192), start(steps, [[0] * 17] * 100)] + [run(4000)] * 50
        self.assertLessEqual(len(flat(*calls)), 16000)
        self.assertEqual(last(*calls), [1])


if __name__ == "__main__":
    unittest.main()
