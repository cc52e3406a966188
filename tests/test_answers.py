import contextlib
import io
import subprocess
import sys
import time
import unittest
from pathlib import Path

from helper import MINIMA, MOST, REDUCED, SHORTEST, begin, begin_rows, has, has_rows

from nearpoints.steps import answers

ROOT = Path(__file__).resolve().parent.parent
STEPS = [[2, 1], [0, 3]]
MIXED = (begin(STEPS) + SHORTEST + begin_rows(4, [], []) + MINIMA + has([2, 1]) + has([1, 0]) + has([101, 0])
         + has_rows([1], []) + begin([[1, 1, 0], [1, 0, 1], [0, 1, 1]]) + REDUCED)
MIXED_ANSWERS = [1, 6, 4, 1, 5, 2, 1, 1, -1, 3, 2, 5, 8, 3, 1, 1, 0, 1, 0, 1, -1, 1, -3,
                 1, 2, 10, 3, 1, 1, 0, 1, 0, 1, 1, 0, -1]


class Form(unittest.TestCase):
    def test_one_call_each(self):
        self.assertEqual(answers([2]), [6, 2, 1, 1, 0, 0, 1])
        self.assertEqual(answers([3]), [3, 2, 1, 1])
        self.assertEqual(answers([4]), [5, 2, 1, 0, 0, 1])
        self.assertEqual(answers([5, 2, 3, 0, 2, 0, 4]), [3, 1, 3, -4])
        self.assertEqual(answers([1, 2, 4, 2, 0, 0, 3, 4, 0, 0, 0, 0]), [1, 6])

    def test_several_one_behind_another(self):
        self.assertEqual(answers(MIXED), MIXED_ANSWERS)

    def test_a_refusal_is_its_number_alone(self):
        self.assertEqual(answers([1, 0, 0, 0]), [1, -1])
        self.assertEqual(answers([5, 0, 0]), [1, -3])
        self.assertEqual(answers([1, 2, 4, 1, 1, 1, 1, 4, 0, 0, 0, 0]), [1, -4])

    def test_a_refused_call_is_read_to_its_end(self):
        self.assertEqual(answers(begin_rows(MOST, [4] * 1024, [2] * 7) + MINIMA), [1, -1, 3, 2, 1, 1])
        self.assertEqual(answers(has_rows([4] * 3, [2] * 1024) + MINIMA), [1, -3, 3, 2, 1, 1])

    def test_thirty_calls(self):
        calls = []
        told = []
        for k in range(1, 10):
            calls += begin([[k, 0], [0, 9]]) + MINIMA + has([-k, 18])
            told += [1, 9 * k, 3, 2, k * k, 81, 3, 1, -1, 2]
        calls += SHORTEST + REDUCED + MINIMA
        told += [6, 2, 81, 9, 0, 0, 9, 5, 2, 9, 0, 0, 9, 3, 2, 81, 81]
        self.assertEqual(answers(calls), told)

    def test_a_list_of_nearly_16000_numbers(self):
        long = has_rows([MOST] * 1024, [MOST] * 1024)
        self.assertEqual(answers(long * 7 + REDUCED), [1, -3] * 7 + [5, 2, 1, 0, 0, 1])

    def test_whole_numbers_in_a_list(self):
        told = answers(MIXED)
        self.assertIs(type(told), list)
        for number in told:
            self.assertIs(type(number), int)


class NothingKept(unittest.TestCase):
    def test_what_is_handed_in_is_not_changed(self):
        calls = list(MIXED)
        answers(calls)
        self.assertEqual(calls, MIXED)

    def test_not_for_a_while_either(self):
        class Watched(list):
            def refuse(self, *values):
                raise AssertionError("the list was changed")
            append = extend = insert = pop = remove = clear = sort = reverse = refuse
            __setitem__ = __delitem__ = __iadd__ = __imul__ = refuse
        self.assertEqual(answers(Watched(MIXED)), MIXED_ANSWERS)

    def test_two_runs_answer_the_same(self):
        first = answers(MIXED)
        answers(begin([[7, 1, 0], [0, 2, 5], [9, 9, -9]]) + SHORTEST + MINIMA + REDUCED)
        answers(begin_rows(2, [1, 2, 2, 4], [0, 0, 0, 0]))
        self.assertEqual(answers(MIXED), first)
        self.assertEqual(answers(REDUCED), [5, 2, 1, 0, 0, 1])

    def test_what_is_given_back_is_new_each_time(self):
        first = answers(REDUCED)
        first[1] = 7
        first.clear()
        self.assertEqual(answers(REDUCED), [5, 2, 1, 0, 0, 1])

    def test_nothing_is_printed(self):
        out = io.StringIO()
        with contextlib.redirect_stdout(out), contextlib.redirect_stderr(out):
            answers(MIXED)
        self.assertEqual(out.getvalue(), "")

    def test_nothing_else_is_imported(self):
        code = ("import sys; before = set(sys.modules); import nearpoints.steps; "
                "nearpoints.steps.answers([2, 3, 4]); new = set(sys.modules) - before; "
                "sys.exit(any(not name.startswith('nearpoints') for name in new))")
        done = subprocess.run([sys.executable, "-B", "-c", code], cwd=ROOT, stdin=subprocess.DEVNULL,
                              capture_output=True)
        self.assertEqual((done.returncode, done.stdout), (0, b""), done.stderr)


class Time(unittest.TestCase):
    def test_the_widest_searches_end_soon(self):
        wide = begin([[1, -1, 0], [0, 1, -1], [9, 9, 9]]) + MINIMA
        long = begin([[9, -9, 0], [0, 9, -9], [-9, 0, 8]]) + SHORTEST
        start = time.perf_counter()
        answers(wide * 15)
        answers(long * 15)
        self.assertLess(time.perf_counter() - start, 30)


if __name__ == "__main__":
    unittest.main()
