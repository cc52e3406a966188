import contextlib
import io
import subprocess
import sys
import time
import unittest
from pathlib import Path

from helper import (MINIMA, MOST, REDUCED, SHORTEST, WALLS, ask, begin, begin_rows, has, has_rows, judge, judge_rows,
                    nearest, nearest_rows, same, same_rows, some_places, some_steps)

from nearpoints.steps import answers

ROOT = Path(__file__).resolve().parent.parent
STEPS = [[2, 1], [0, 3]]
STEPS_OF_THREE = [[1, 1, 0], [1, 0, 1], [0, 1, 1]]
MIXED = (begin(STEPS) + SHORTEST + begin_rows(4, [], []) + MINIMA + has([2, 1]) + has([1, 0]) + has([101, 0])
         + has_rows([1], []) + same([[4, 5], [2, 4]]) + same([[1, 0], [0, 1]]) + nearest([1, 3], 2) + WALLS
         + nearest([1, 3], 11) + judge([1, 2]) + judge([4, 0]) + same([[1, 1], [2, 2]])
         + begin(STEPS_OF_THREE) + REDUCED + same(STEPS) + judge([1, 1, 1])
         + nearest([-3, -1, 0], 3) + WALLS + judge([1, 1]) + SHORTEST)
MIXED_ANSWERS = [1, 6, 4, 1, 5, 2, 1, 1, -1, 3, 2, 5, 8, 3, 1, 1, 0, 1, 0, 1, -1,
                 1, -3, 1, 1, 1, 0, 8, 3, 10, 0, 0, 2, 1, 0, 3, 7, 3, 2, 1, 2, -2, 0, 3,
                 1, -1, 1, 1, 1, 0, 1, -4, 1, 2, 10, 3, 1, 1, 0, 1, 0, 1, 1, 0, -1,
                 1, -3, 1, 1, 5, 1, 4, -1, -1, 0, 19, 6, 1, 1, 0, 1, 0, 1, 1, 0, -1, 1, -1, 0, 0, 1, 1, 0, 1, -1,
                 1, -3, 20, 6, 2, 1, 1, 0, 1, 0, 1, 1, 0, -1, 1, -1, 0, 0, 1, 1, 0, 1, -1]


def refused_calls():
    """Calls that are refused whatever the steps are."""
    return [begin_rows(4, [1] * 16, [0] * 16), begin_rows(2, [1] * 5, [0] * 5), begin_rows(3, [10] * 9, [0] * 9),
            begin_rows(2, [1] * 4, [0] * 4), begin_rows(3, [1] * 9, [0] * 9), has_rows([1], [1]),
            has_rows([1, 2], [1, 2, 3]), same_rows([1] * 5, [0] * 5), same_rows([1] * 9, [0] * 4),
            nearest_rows(0, [1, 2], [0, 0]), nearest_rows(11, [1, 2, 3], [0, 0, 0]), nearest_rows(1, [1], [0]),
            nearest_rows(10, [1, 2, 3], [0, 0]), judge_rows([0], [0]), judge_rows([1, 2, 3], [1, 2])]


def calls_about(steps, k):
    """All calls but begin, for these steps."""
    n = len(steps)
    place = some_places(n, 1, 100, k)[0]
    near = some_places(n, 1, 3, k)[0]
    turned = [steps[-1]] + steps[:-1]
    return [SHORTEST, MINIMA, REDUCED, has(place), has(steps[0]), same(turned), same(some_steps(n, 1, 9, k)[0]),
            nearest(place, k % 10 + 1), WALLS, judge(near), judge(place)]


class Form(unittest.TestCase):
    def test_one_call_each(self):
        self.assertEqual(answers([2]), [6, 2, 1, 1, 0, 0, 1])
        self.assertEqual(answers([3]), [3, 2, 1, 1])
        self.assertEqual(answers([4]), [5, 2, 1, 0, 0, 1])
        self.assertEqual(answers([5, 2, 3, 0, 2, 0, 4]), [3, 1, 3, -4])
        self.assertEqual(answers([1, 2, 4, 2, 0, 0, 3, 4, 0, 0, 0, 0]), [1, 6])
        self.assertEqual(answers([6, 4, 1, 1, 0, 1, 4, 0, 0, 0, 0]), [1, 1])
        self.assertEqual(answers([7, 2, 2, 1, 0, 2, 0, 2]), [6, 2, 1, 0, -1, 1, -1])
        self.assertEqual(answers([8]), [5, 2, 1, 0, 0, 1])
        self.assertEqual(answers([9, 2, 1, 0, 2, 0, 1]), [1, 1])

    def test_several_one_behind_another(self):
        self.assertEqual(answers(MIXED), MIXED_ANSWERS)

    def test_a_refusal_is_its_number_alone(self):
        self.assertEqual(answers([1, 0, 0, 0]), [1, -1])
        self.assertEqual(answers([5, 0, 0]), [1, -3])
        self.assertEqual(answers([1, 2, 4, 1, 1, 1, 1, 4, 0, 0, 0, 0]), [1, -4])
        self.assertEqual(answers([6, 0, 0]), [1, -3])
        self.assertEqual(answers([7, 0, 0, 0]), [1, -1])
        self.assertEqual(answers([7, 1, 0, 0]), [1, -3])
        self.assertEqual(answers([9, 0, 0]), [1, -3])

    def test_a_refused_call_is_read_to_its_end(self):
        self.assertEqual(answers(begin_rows(MOST, [4] * 1024, [2] * 7) + MINIMA), [1, -1, 3, 2, 1, 1])
        self.assertEqual(answers(has_rows([4] * 3, [2] * 1024) + MINIMA), [1, -3, 3, 2, 1, 1])
        self.assertEqual(answers(same_rows([4] * 1024, [2] * 7) + MINIMA), [1, -3, 3, 2, 1, 1])
        self.assertEqual(answers(nearest_rows(MOST, [4] * 1024, [2] * 1024) + MINIMA), [1, -1, 3, 2, 1, 1])
        self.assertEqual(answers(nearest_rows(5, [4] * 9, [2] * 1024) + MINIMA), [1, -3, 3, 2, 1, 1])
        self.assertEqual(answers(judge_rows([4] * 1024, []) + MINIMA), [1, -3, 3, 2, 1, 1])

    def test_thirty_calls(self):
        calls = []
        told = []
        for k in range(1, 10):
            calls += begin([[k, 0], [0, 9]]) + MINIMA + has([-k, 18])
            told += [1, 9 * k, 3, 2, k * k, 81, 3, 1, -1, 2]
        calls += SHORTEST + REDUCED + MINIMA
        told += [6, 2, 81, 9, 0, 0, 9, 5, 2, 9, 0, 0, 9, 3, 2, 81, 81]
        self.assertEqual(answers(calls), told)

    def test_all_nine_calls_in_thirty(self):
        for k in range(12):
            rows = some_steps(2, 1, 9, k) + some_steps(3, 1, 9, k)
            calls = [call for steps in rows for call in [begin(steps)] + calls_about(steps, k)]
            calls += [WALLS, REDUCED] + refused_calls()[k:k + 4]
            self.assertLessEqual(len(calls), 30)
            told = answers([x for call in calls for x in call])
            alone = []
            for steps in rows:
                for call in calls_about(steps, k):
                    alone.append(answers(begin(steps) + call)[2:])
            apart = ask(*calls)
            self.assertEqual(told, [x for answer in apart for x in [len(answer)] + answer])
            half = len(calls_about(rows[0], k))
            self.assertEqual([[len(x)] + x for x in apart[1:half + 1] + apart[half + 2:2 * half + 2]], alone)

    def test_a_list_of_nearly_16000_numbers(self):
        long = has_rows([MOST] * 1024, [MOST] * 1024)
        self.assertEqual(answers(long * 7 + REDUCED), [1, -3] * 7 + [5, 2, 1, 0, 0, 1])
        wide = nearest_rows(10, [MOST] * 1024, [MOST] * 1024) + same_rows([0] * 1024, [1] * 1024)
        wide += judge_rows([7] * 1024, [7] * 1024)
        self.assertEqual(answers(wide * 2 + WALLS), [1, -3] * 6 + [5, 2, 1, 0, 0, 1])

    def test_whole_numbers_in_a_list(self):
        told = answers(MIXED)
        self.assertIs(type(told), list)
        for number in told:
            self.assertIs(type(number), int)


class RefusalsBetween(unittest.TestCase):
    def test_all_is_as_it_was(self):
        for k, steps in enumerate([STEPS, [[9, 8], [8, 7]], STEPS_OF_THREE, [[5, 0, 1], [1, 4, 2], [-2, 1, 6]]]):
            plain = [begin(steps)] + calls_about(steps, k)
            before = ask(*plain)
            for refused in refused_calls():
                mixed = [call for one in plain for call in [one, refused]]
                told = ask(*mixed)
                self.assertEqual(told[::2], before)
                self.assertTrue(all(len(answer) == 1 and answer[0] < 0 for answer in told[1::2]))

    def test_before_any_begin(self):
        before = ask(*calls_about([[1, 0], [0, 1]], 5))
        for refused in refused_calls():
            self.assertEqual(ask(refused, *calls_about([[1, 0], [0, 1]], 5))[1:], before)

    def test_only_a_refusal_begins_below_0(self):
        for steps in some_steps(2, 20, 9, 121) + some_steps(3, 20, 9, 122):
            for answer in ask(begin(steps), *calls_about(steps, 3)):
                self.assertGreaterEqual(answer[0], 0)


class NothingKept(unittest.TestCase):
    def test_what_is_handed_in_is_not_changed(self):
        calls = list(MIXED)
        answers(calls)
        self.assertEqual(calls, MIXED)

    def test_not_for_a_while_either(self):
        class Watched(list):
            def refuse(self, *values):
                raise AssertionError("the list was changed")
            append = extend = insert = pop = remove = clear = sort = reverse = refuse
            __setitem__ = __delitem__ = __iadd__ = __imul__ = refuse
        self.assertEqual(answers(Watched(MIXED)), MIXED_ANSWERS)

    def test_two_runs_answer_the_same(self):
        first = answers(MIXED)
        answers(begin([[7, 1, 0], [0, 2, 5], [9, 9, -9]]) + SHORTEST + MINIMA + REDUCED)
        answers(begin([[7, 1, 0], [0, 2, 5], [9, 9, -9]]) + WALLS + nearest([1, 2, 3], 4) + judge([7, 7, 7]))
        answers(begin_rows(2, [1, 2, 2, 4], [0, 0, 0, 0]))
        self.assertEqual(answers(MIXED), first)
        self.assertEqual(answers(REDUCED), [5, 2, 1, 0, 0, 1])

    def test_what_is_given_back_is_new_each_time(self):
        first = answers(REDUCED)
        first[1] = 7
        first.clear()
        self.assertEqual(answers(REDUCED), [5, 2, 1, 0, 0, 1])

    def test_nothing_is_printed(self):
        out = io.StringIO()
        with contextlib.redirect_stdout(out), contextlib.redirect_stderr(out):
            answers(MIXED)
        self.assertEqual(out.getvalue(), "")

    def test_nothing_else_is_imported(self):
        code = ("import sys; before = set(sys.modules); import nearpoints.steps; "
                "nearpoints.steps.answers([2, 3, 4, 8, 9, 0, 0]); new = set(sys.modules) - before; "
                "sys.exit(any(not name.startswith('nearpoints') for name in new))")
        done = subprocess.run([sys.executable, "-B", "-c", code], cwd=ROOT, stdin=subprocess.DEVNULL,
                              capture_output=True)
        self.assertEqual((done.returncode, done.stdout), (0, b""), done.stderr)


class Time(unittest.TestCase):
    def test_the_widest_searches_end_soon(self):
        wide = begin([[1, -1, 0], [0, 1, -1], [9, 9, 9]]) + MINIMA
        long = begin([[9, -9, 0], [0, 9, -9], [-9, 0, 8]]) + SHORTEST
        start = time.perf_counter()
        answers(wide * 15)
        answers(long * 15)
        for steps in [[[1, -1, 0], [0, 1, -1], [9, 9, 9]], [[1, 0, 0], [0, 1, 0], [9, 9, 9]],
                      [[9, 9, 9], [9, -9, 9], [9, 9, -9]], [[9, -9, 0], [0, 9, -9], [-9, 0, 8]]]:
            answers(begin(steps) + WALLS * 10 + nearest([100, -99, 100], 10) * 10 + judge([100, 99, -98]) * 9)
        self.assertLess(time.perf_counter() - start, 30)


if __name__ == "__main__":
    unittest.main()
