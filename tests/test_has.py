import itertools
import unittest

from helper import EDGES, MOST, REDUCED, ask, ask_last, begin, has, has_rows, points_of, some_steps, taken

STEPS = [[2, 1], [0, 3]]


class Has(unittest.TestCase):
    def test_before_any_begin(self):
        self.assertEqual(ask_last(has([3, -4])), [1, 3, -4])

    def test_times_of_the_reduced_steps(self):
        self.assertEqual(ask(begin([[9, 8], [8, 7]]), REDUCED, has([5, -7])), [[1], [2, 1, 0, 0, 1], [1, 5, -7]])
        self.assertEqual(ask(begin(STEPS), REDUCED, has([4, -1])), [[6], [2, 2, 1, 2, -2], [1, 1, 1]])
        three = [[0, 0, 5], [3, 0, 0], [0, -4, 0]]
        self.assertEqual(ask_last(begin(three), has([6, 8, -15])), [1, 2, 2, -3])

    def test_not_led_to(self):
        self.assertEqual(ask_last(begin(STEPS), has([1, 0])), [0])
        self.assertEqual(ask_last(begin(STEPS), has([2, 0])), [0])
        self.assertEqual(ask_last(begin([[1, 1, 0], [1, 0, 1], [0, 1, 1]]), has([1, 1, 1])), [0])

    def test_the_origin(self):
        self.assertEqual(ask_last(begin(STEPS), has([0, 0])), [1, 0, 0])
        self.assertEqual(ask_last(begin([[9, 0, 0], [0, 9, 0], [0, 0, 9]]), has([0, 0, 0])), [1, 0, 0, 0])

    def test_put_together_again_they_give_the_point(self):
        for steps in EDGES + some_steps(2, 60, 9, 41) + some_steps(3, 60, 9, 42):
            n = len(steps)
            numbers = [-100, -7, 0, 2, 9, 100]
            asked = list(itertools.product(numbers, repeat=n))[::n * n]
            asked += [tuple(steps[0]), tuple(a - 2 * b for a, b in zip(steps[0], steps[-1]))]
            for some in range(0, len(asked), 28):
                part = asked[some:some + 28]
                told = ask(begin(steps), REDUCED, *[has(point) for point in part])
                short = points_of(told[1][1:], n)
                for point, answer in zip(part, told[2:]):
                    self.agrees(steps, short, point, answer)

    def agrees(self, steps, short, point, answer):
        if taken(steps, point) is None:
            self.assertEqual(answer, [0], (steps, point))
            return
        self.assertEqual(answer[0], 1, (steps, point))
        self.assertEqual(len(answer), 1 + len(steps), (steps, point))
        back = [sum(t * step[k] for t, step in zip(answer[1:], short)) for k in range(len(steps))]
        self.assertEqual(back, list(point), steps)

    def test_plus_less_minus(self):
        self.assertEqual(ask_last(has_rows([MOST, 5], [MOST - 100, 105])), [1, 100, -100])
        self.assertEqual(ask_last(has_rows([7, 0], [9, 0])), [1, -2, 0])


class Refusals(unittest.TestCase):
    def test_not_n_numbers(self):
        three = begin([[1, 0, 0], [0, 1, 0], [0, 0, 1]])
        for count in [0, 1, 3, 4, 1024]:
            self.assertEqual(ask_last(has_rows([0] * count, [0] * count)), [-3])
        for count in [0, 1, 2, 4, 9, 1024]:
            self.assertEqual(ask_last(three, has_rows([0] * count, [0] * count)), [-3])

    def test_not_as_long_as_each_other(self):
        for other in [0, 1, 3, 1024]:
            self.assertEqual(ask_last(has_rows([0, 0], [0] * other)), [-3])
            self.assertEqual(ask_last(has_rows([0] * other, [0, 0])), [-3])

    def test_beyond_100(self):
        for far in [101, 102, 1000, MOST]:
            self.assertEqual(ask_last(has_rows([far, 0], [0, 0])), [-1])
            self.assertEqual(ask_last(has_rows([0, far], [0, 0])), [-1])
            self.assertEqual(ask_last(has_rows([0, 0], [far, 0])), [-1])
            self.assertEqual(ask_last(has_rows([0, 0], [0, far])), [-1])
        three = begin([[1, 0, 0], [0, 1, 0], [0, 0, 1]])
        self.assertEqual(ask_last(three, has([0, 0, 101])), [-1])
        self.assertEqual(ask_last(three, has([0, 0, -101])), [-1])

    def test_beyond_100_even_if_not_led_to(self):
        self.assertEqual(ask_last(begin([[2, 0], [0, 2]]), has([101, 0])), [-1])

    def test_100_itself_is_taken(self):
        self.assertEqual(ask_last(has([100, -100])), [1, 100, -100])
        self.assertEqual(ask_last(has([-100, 100])), [1, -100, 100])
        self.assertEqual(ask_last(has_rows([MOST, 0], [MOST - 101, 0])), [-1])

    def test_of_several_the_one_told_first(self):
        self.assertEqual(ask_last(has_rows([101], [0])), [-3])
        self.assertEqual(ask_last(has_rows([MOST] * 1024, [0] * 1024)), [-3])
        self.assertEqual(ask_last(has_rows([101, 0], [0])), [-3])
        self.assertEqual(ask_last(has_rows([101, 0], [0, 0, 0])), [-3])

    def test_a_refusal_leaves_the_steps(self):
        for refused in [has([101, 0]), has([1])]:
            told = ask(begin(STEPS), refused, REDUCED)
            self.assertEqual(told[2], [2, 2, 1, 2, -2])


if __name__ == "__main__":
    unittest.main()
