import unittest

from helper import EDGES, MOST, REDUCED, all_steps_of_two, ask, ask_last, begin, begin_rows, det, some_steps

UNIT = [2, 1, 0, 0, 1]


class Answer(unittest.TestCase):
    def test_two_steps(self):
        self.assertEqual(ask(begin([[2, 1], [1, 3]])), [[5]])

    def test_three_steps(self):
        self.assertEqual(ask(begin([[2, 1, 0], [0, 3, 1], [1, 0, 4]])), [[25]])

    def test_the_size_is_above_0_where_the_determinant_is_below(self):
        self.assertEqual(ask(begin([[0, 1], [1, 0]])), [[1]])
        self.assertEqual(ask(begin([[0, 2, 0], [3, 0, 0], [0, 0, 1]])), [[6]])

    def test_the_greatest_numbers(self):
        self.assertEqual(ask(begin([[9, 9], [-9, 9]])), [[162]])
        self.assertEqual(ask(begin([[9, 9, 9], [9, -9, 9], [9, 9, -9]])), [[2916]])
        self.assertEqual(ask(begin([[-9, -9], [9, -9]])), [[162]])

    def test_many(self):
        rows = EDGES + all_steps_of_two(2) + some_steps(2, 200, 9, 1) + some_steps(3, 200, 9, 2)
        for steps in rows:
            self.assertEqual(ask(begin(steps)), [[abs(det(steps))]], steps)

    def test_plus_less_minus(self):
        call = begin_rows(2, [5, 1, 1, 3], [3, 0, 0, 0])
        self.assertEqual(ask(call, REDUCED), [[5], [2, 2, 1, 1, -2]])

    def test_large_lists_of_small_differences(self):
        call = begin_rows(2, [MOST, 0, 0, MOST - 9], [MOST - 9, 0, 0, MOST])
        self.assertEqual(ask(call, REDUCED), [[81], [2, 9, 0, 0, 9]])

    def test_steps_are_told_one_behind_another(self):
        self.assertEqual(ask_last(begin([[1, 5], [0, 7]]), REDUCED), [2, 1, -2, 3, 1])
        self.assertEqual(ask_last(begin([[1, 0], [5, 7]]), REDUCED), [2, 1, 0, 0, 7])


class Steps(unittest.TestCase):
    def test_at_the_beginning(self):
        self.assertEqual(ask(REDUCED), [UNIT])

    def test_begin_again(self):
        told = ask(begin([[2, 0], [0, 3]]), REDUCED, begin([[1, 0, 0], [0, 2, 0], [0, 0, 3]]), REDUCED,
                   begin([[4, 0], [0, 5]]), REDUCED)
        self.assertEqual(told, [[6], [2, 2, 0, 0, 3], [6], [3, 1, 0, 0, 0, 2, 0, 0, 0, 3], [20], [2, 4, 0, 0, 5]])

    def test_a_refused_begin_leaves_the_steps(self):
        refused = [
            (begin_rows(4, [], []), -1),
            (begin_rows(3, [1, 0, 0, 1], [0, 0, 0, 0]), -3),
            (begin_rows(2, [10, 0, 0, 1], [0, 0, 0, 0]), -1),
            (begin_rows(2, [1, 2, 2, 4], [0, 0, 0, 0]), -4),
            (begin([[1, 0, 0], [0, 1, 0], [1, 1, 0]]), -4),
        ]
        for call, number in refused:
            self.assertEqual(ask(call, REDUCED), [[number], UNIT])
            self.assertEqual(ask(begin([[2, 0], [0, 3]]), call, REDUCED), [[6], [number], [2, 2, 0, 0, 3]])
            three = [[1, 0, 0], [0, 2, 0], [0, 0, 3]]
            self.assertEqual(ask(begin(three), call, REDUCED), [[6], [number], [3, 1, 0, 0, 0, 2, 0, 0, 0, 3]])


class Refusals(unittest.TestCase):
    def refused(self, call, number):
        self.assertEqual(ask(call), [[number]])

    def test_n(self):
        for n in [0, 1, 4, 5, 9, 32, 1024, MOST - 1, MOST]:
            self.refused(begin_rows(n, [1, 0, 0, 1], [0, 0, 0, 0]), -1)
        self.refused(begin_rows(1, [1], [0]), -1)
        self.refused(begin_rows(4, [1, 0, 0, 0, 0, 1, 0, 0, 0, 0, 1, 0, 0, 0, 0, 1], [0] * 16), -1)

    def test_not_n_times_n_numbers(self):
        for count in [0, 1, 2, 3, 5, 6, 8, 9, 10, 1023, 1024]:
            self.refused(begin_rows(2, [1] * count, [0] * count), -3)
        for count in [0, 1, 3, 4, 8, 10, 27, 1023, 1024]:
            self.refused(begin_rows(3, [1] * count, [0] * count), -3)

    def test_not_as_long_as_each_other(self):
        unit = [1, 0, 0, 1]
        for other in [0, 3, 5, 8, 1024]:
            self.refused(begin_rows(2, unit, [0] * other), -3)
            self.refused(begin_rows(2, [1] * other, [0] * 4), -3)
        unit = [1, 0, 0, 0, 1, 0, 0, 0, 1]
        for other in [0, 4, 8, 10, 1024]:
            self.refused(begin_rows(3, unit, [0] * other), -3)
            self.refused(begin_rows(3, [1] * other, [0] * 9), -3)

    def test_beyond_9_in_each_place(self):
        for n in [2, 3]:
            for place in range(n * n):
                for far in [10, 11, 100, MOST]:
                    unit = [1 if k % (n + 1) == 0 else 0 for k in range(n * n)]
                    zero = [0] * (n * n)
                    unit[place] = far
                    self.refused(begin_rows(n, unit, zero), -1)
                    self.refused(begin_rows(n, zero, unit), -1)

    def test_9_itself_is_taken(self):
        self.assertEqual(ask(begin_rows(2, [9, 0, 0, 0], [0, 0, 0, 9])), [[81]])
        self.assertEqual(ask(begin([[9, 9, 9], [-9, 9, 9], [-9, -9, 9]])), [[2916]])

    def test_the_difference_counts(self):
        self.refused(begin_rows(2, [MOST, 0, 0, 1], [MOST - 10, 0, 0, 0]), -1)
        self.refused(begin_rows(2, [MOST - 10, 0, 0, 1], [MOST, 0, 0, 0]), -1)
        self.assertEqual(ask(begin_rows(2, [MOST, 0, 0, 1], [MOST - 9, 0, 0, 0])), [[9]])

    def test_one_lies_where_others_lead(self):
        for steps in [
            [[0, 0], [0, 0]], [[0, 0], [1, 0]], [[1, 1], [1, 1]], [[1, 2], [-2, -4]], [[4, 6], [6, 9]],
            [[0, 0, 0], [1, 0, 0], [0, 1, 0]], [[1, 2, 3], [4, 5, 6], [7, 8, 9]],
            [[1, 2, 3], [2, 4, 6], [0, 0, 1]], [[9, 9, 9], [9, 9, 9], [9, 9, 9]], [[2, 0, 0], [0, 2, 0], [1, 1, 0]],
        ]:
            self.refused(begin(steps), -4)

    def test_of_several_the_one_told_first(self):
        self.refused(begin_rows(4, [10], []), -1)
        self.refused(begin_rows(0, [], []), -1)
        self.refused(begin_rows(MOST, [MOST] * 1024, [0] * 1000), -1)
        self.refused(begin_rows(2, [10, 0, 0], [0, 0, 0]), -3)
        self.refused(begin_rows(2, [10, 0, 0, 0], [0, 0, 0]), -3)
        self.refused(begin_rows(3, [MOST] * 1024, [0] * 1024), -3)
        self.refused(begin_rows(2, [10, 10, 10, 10], [0, 0, 0, 0]), -1)
        self.refused(begin_rows(3, [0] * 9, [10] * 9), -1)


if __name__ == "__main__":
    unittest.main()
