import itertools
import unittest

from helper import (EDGES, MINIMA, MOST, REDUCED, WALLS, all_steps_of_two, ask, ask_last, begin, begin_rows, det, has,
                    same, same_rows, some_steps, taken)

UNIT = [[1, 0], [0, 1]]
CUBE = [[1, 0, 0], [0, 1, 0], [0, 0, 1]]
STEPS = [[2, 1], [0, 3]]
THREE = [[2, 0, 1], [0, 3, 1], [1, 1, 4]]


def is_same(steps, others):
    return ask_last(begin(steps), same(others))


def same_by_reckoning(steps, others):
    """Each of the steps is led to by the others, and each of the others by the steps."""
    there = all(taken(steps, other) is not None for other in others)
    back = all(taken(others, step) is not None for step in steps)
    return int(there and back)


def turned_about(steps):
    """Other steps that lead to the same points, as far as their numbers are up to 9."""
    n = len(steps)
    found = [[list(step) for step in order] for order in itertools.permutations(steps)]
    found += [[[-x for x in step] if j == k else step for j, step in enumerate(steps)] for k in range(n)]
    for k, other in itertools.permutations(range(n), 2):
        for often in [-3, -2, -1, 1, 2, 3]:
            put = [x + often * y for x, y in zip(steps[k], steps[other])]
            found.append([put if j == k else step for j, step in enumerate(steps)])
    return [rows for rows in found if max(abs(x) for row in rows for x in row) <= 9]


class Same(unittest.TestCase):
    def test_before_any_begin(self):
        self.assertEqual(ask_last(same(UNIT)), [1])
        self.assertEqual(ask_last(same([[9, 8], [8, 7]])), [1])
        self.assertEqual(ask_last(same([[2, 0], [0, 1]])), [0])

    def test_the_steps_themselves(self):
        for steps in EDGES:
            self.assertEqual(is_same(steps, steps), [1], steps)

    def test_other_steps_to_the_same_points(self):
        self.assertEqual(is_same(STEPS, [[2, -2], [-2, -1]]), [1])
        self.assertEqual(is_same(STEPS, [[4, 5], [2, 4]]), [1])
        self.assertEqual(is_same([[1, 1, 0], [1, 0, 1], [0, 1, 1]], [[2, 0, 0], [1, 1, 0], [1, 0, -1]]), [1])
        count = 0
        for steps in EDGES + some_steps(2, 60, 4, 61) + some_steps(3, 60, 4, 62):
            for others in turned_about(steps):
                self.assertEqual(is_same(steps, others), [1], (steps, others))
                count += 1
        self.assertGreater(count, 1000)

    def test_steps_that_lead_to_some_of_the_points_alone(self):
        self.assertEqual(is_same(UNIT, STEPS), [0])
        self.assertEqual(is_same(STEPS, [[4, 2], [0, 3]]), [0])
        self.assertEqual(is_same(STEPS, [[4, -4], [2, -2 + 9]]), [0])
        self.assertEqual(is_same(CUBE, [[1, 1, 0], [1, 0, 1], [0, 1, 1]]), [0])
        self.assertEqual(is_same(THREE, [[4, 0, 2], [0, 3, 1], [1, 1, 4]]), [0])

    def test_steps_to_which_only_some_of_these_lead(self):
        self.assertEqual(is_same(STEPS, UNIT), [0])
        self.assertEqual(is_same([[4, 2], [0, 3]], STEPS), [0])
        self.assertEqual(is_same([[1, 1, 0], [1, 0, 1], [0, 1, 1]], CUBE), [0])
        self.assertEqual(is_same([[4, 0, 2], [0, 3, 1], [1, 1, 4]], THREE), [0])

    def test_as_many_points_but_other_ones(self):
        self.assertEqual(is_same(STEPS, [[1, 2], [3, 0]]), [0])
        self.assertEqual(is_same([[2, 0], [0, 3]], [[3, 0], [0, 2]]), [0])
        self.assertEqual(is_same([[2, 0, 0], [0, 1, 0], [0, 0, 1]], [[1, 0, 0], [0, 1, 0], [0, 0, 2]]), [0])

    def test_one_step_alone_is_not_led_to(self):
        steps = [[2, 0, 0], [0, 2, 0], [0, 0, 2]]
        for k in range(3):
            others = [[2, 0, 0], [0, 2, 0], [0, 0, 2]]
            others[k][k] = 1
            others[k][(k + 1) % 3] = 1
            self.assertEqual(is_same(steps, others), [0])

    def test_against_reckoning(self):
        rows = all_steps_of_two(1)
        for steps, others in itertools.product(rows, rows):
            self.assertEqual(is_same(steps, others), [same_by_reckoning(steps, others)], (steps, others))
        for n, seed in [(2, 63), (3, 64)]:
            rows = some_steps(n, 70, 2, seed) + some_steps(n, 20, 9, seed + 10)
            for steps, others in itertools.combinations(rows, 2):
                self.assertEqual(is_same(steps, others), [same_by_reckoning(steps, others)], (steps, others))

    def test_plus_less_minus(self):
        self.assertEqual(ask_last(begin(STEPS), same_rows([5, 1, 7, 3], [3, 0, 7, 0])), [1])
        self.assertEqual(ask_last(same_rows([MOST, 0, 0, MOST - 1], [MOST - 1, 0, 0, MOST])), [1])

    def test_the_steps_are_as_they_were(self):
        for steps, others in [(STEPS, [[4, 5], [2, 4]]), (STEPS, UNIT), (UNIT, STEPS), (THREE, CUBE), (CUBE, THREE)]:
            asked = [REDUCED, MINIMA, WALLS, has([1] * len(steps)), same(steps)]
            before = ask(begin(steps), *asked)
            self.assertEqual(ask(begin(steps), same(others), *asked)[2:], before[1:])


class Refusals(unittest.TestCase):
    def refused(self, call, number):
        self.assertEqual(ask_last(call), [number])

    def refused_of_three(self, call, number):
        self.assertEqual(ask_last(begin(CUBE), call), [number])

    def test_not_n_times_n_numbers(self):
        for count in [0, 1, 2, 3, 5, 9, 1024]:
            self.refused(same_rows([1] * count, [0] * count), -3)
        for count in [0, 1, 3, 4, 8, 10, 1024]:
            self.refused_of_three(same_rows([1] * count, [0] * count), -3)

    def test_n_is_that_of_the_steps_at_hand(self):
        self.refused(same(CUBE), -3)
        self.refused_of_three(same(UNIT), -3)
        told = ask(same(UNIT), begin(CUBE), same(UNIT), same(CUBE), begin(UNIT), same(UNIT), same(CUBE),
                   begin_rows(3, [1], [0]), same(UNIT))
        self.assertEqual(told, [[1], [1], [-3], [1], [1], [1], [-3], [-3], [1]])

    def test_not_as_long_as_each_other(self):
        for other in [0, 3, 5, 1024]:
            self.refused(same_rows([1, 0, 0, 1], [0] * other), -3)
            self.refused(same_rows([0] * other, [1, 0, 0, 1]), -3)
        for other in [0, 4, 8, 10, 1024]:
            self.refused_of_three(same_rows([1, 0, 0, 0, 1, 0, 0, 0, 1], [0] * other), -3)
            self.refused_of_three(same_rows([0] * other, [1, 0, 0, 0, 1, 0, 0, 0, 1]), -3)

    def test_beyond_9_in_each_place(self):
        for n, refused in [(2, self.refused), (3, self.refused_of_three)]:
            for place in range(n * n):
                for far in [10, 11, 100, MOST]:
                    unit = [1 if k % (n + 1) == 0 else 0 for k in range(n * n)]
                    zero = [0] * (n * n)
                    unit[place] = far
                    refused(same_rows(unit, zero), -1)
                    refused(same_rows(zero, unit), -1)

    def test_9_itself_is_taken(self):
        self.assertEqual(is_same([[9, 0], [0, 9]], [[-9, 0], [9, -9]]), [1])
        self.refused(same_rows([MOST, 0, 0, 1], [MOST - 10, 0, 0, 0]), -1)
        self.refused(same_rows([MOST - 10, 0, 0, 1], [MOST, 0, 0, 0]), -1)
        self.refused(same_rows([MOST, 0, 0, 1], [MOST - 9, 0, 0, 0]), 0)

    def test_one_lies_where_others_lead(self):
        for steps in [[[0, 0], [0, 0]], [[0, 0], [1, 0]], [[1, 2], [-2, -4]], [[4, 6], [6, 9]]]:
            self.assertEqual(det(steps), 0)
            self.refused(same(steps), -4)
        for steps in [[[0, 0, 0], [1, 0, 0], [0, 1, 0]], [[1, 2, 3], [4, 5, 6], [7, 8, 9]], [[9, 9, 9]] * 3]:
            self.assertEqual(det(steps), 0)
            self.refused_of_three(same(steps), -4)

    def test_of_several_the_one_told_first(self):
        self.refused(same_rows([10, 0, 0], [0, 0, 0]), -3)
        self.refused(same_rows([10, 0, 0, 0], [0, 0, 0]), -3)
        self.refused(same_rows([MOST] * 1024, [0] * 1000), -3)
        self.refused(same_rows([1, 1, 1, 1], [0, 0, 0]), -3)
        self.refused(same_rows([10, 10, 10, 10], [0, 0, 0, 0]), -1)
        self.refused(same_rows([0] * 4, [10] * 4), -1)
        self.refused_of_three(same_rows([MOST] * 9, [0] * 9), -1)

    def test_a_refusal_leaves_the_steps(self):
        for refused in [same_rows([1], [0]), same([[10, 0], [0, 1]]), same([[1, 1], [1, 1]]), same(CUBE)]:
            self.assertEqual(ask(begin(STEPS), refused, REDUCED)[2], [2, 2, 1, 2, -2])


if __name__ == "__main__":
    unittest.main()
