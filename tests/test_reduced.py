import unittest

from helper import (EDGES, MINIMA, REDUCED, all_steps_of_two, ask, ask_last, begin, det, points_of, reduced_by_search,
                    size, some_steps, taken)


def reduced(steps):
    return ask_last(begin(steps), REDUCED)


def many_rows():
    return (EDGES + all_steps_of_two(3) + some_steps(2, 1500, 9, 31)
            + some_steps(3, 1500, 9, 32) + some_steps(3, 500, 3, 33))


class Reduced(unittest.TestCase):
    def agrees(self, steps):
        told = reduced(steps)
        self.assertEqual(told[0], len(steps), steps)
        self.assertEqual(points_of(told[1:], len(steps)), reduced_by_search(steps), steps)

    def test_before_any_begin(self):
        self.assertEqual(ask_last(REDUCED), [2, 1, 0, 0, 1])

    def test_in_order_and_forward(self):
        self.assertEqual(reduced([[0, -1], [-1, 0]]), [2, 1, 0, 0, 1])
        self.assertEqual(reduced([[0, -2], [-5, 0]]), [2, 0, 2, 5, 0])
        self.assertEqual(reduced([[0, 0, -1], [-1, 0, 0], [0, -1, 0]]), [3, 1, 0, 0, 0, 1, 0, 0, 0, 1])

    def test_of_as_long_ones_the_first(self):
        self.assertEqual(reduced([[4, 0], [2, 3]]), [2, 2, 3, 2, -3])
        self.assertEqual(reduced([[0, 1, 1], [1, 0, 1], [1, 1, 0]]), [3, 1, 1, 0, 1, 0, 1, 1, 0, -1])

    def test_a_point_that_cannot_be_gone_on_with_is_passed_over(self):
        self.assertEqual(reduced([[1, 0], [3, 9]]), [2, 1, 0, 0, 9])
        self.assertEqual(reduced([[1, 0, 0], [0, 0, 2], [9, 9, 9]]), [3, 1, 0, 0, 0, 0, 2, 0, 9, 1])
        self.assertEqual(reduced([[1, 1, 1], [2, 0, 0], [0, 2, 0]]), [3, 1, 1, 1, 1, 1, -1, 1, -1, 1])

    def test_against_a_search_with_two_steps(self):
        for steps in all_steps_of_two(2) + some_steps(2, 200, 9, 34):
            self.agrees(steps)

    def test_against_a_search_with_three_steps(self):
        for steps in some_steps(3, 100, 2, 35) + some_steps(3, 40, 9, 36):
            self.agrees(steps)

    def test_against_a_search_at_the_edges(self):
        for steps in EDGES:
            self.agrees(steps)


class Promises(unittest.TestCase):
    def test_the_same_points_are_led_to(self):
        for steps in many_rows():
            short = points_of(reduced(steps)[1:], len(steps))
            for step in steps:
                self.assertIsNotNone(taken(short, step), steps)
            for step in short:
                self.assertIsNotNone(taken(steps, step), steps)

    def test_their_lengths_are_the_minima(self):
        for steps in many_rows():
            told = ask(begin(steps), REDUCED, MINIMA)
            short = points_of(told[1][1:], len(steps))
            self.assertEqual(told[2], [len(steps)] + [size(step) for step in short], steps)

    def test_the_lengths_times_each_other(self):
        for steps in many_rows():
            told = ask(begin(steps), MINIMA)
            square = det(steps) ** 2
            self.assertEqual(told[0][0] ** 2, square, steps)
            product = 1
            for one in told[1][1:]:
                product *= one
            self.assertLessEqual(square, product, steps)
            if len(steps) == 2:
                self.assertLessEqual(3 * product, 4 * square, steps)
            else:
                self.assertLessEqual(product, 2 * square, steps)

    def test_the_bounds_are_met(self):
        self.assertEqual(ask(begin([[3, 0], [0, 5]]), MINIMA), [[15], [2, 9, 25]])
        self.assertEqual(ask(begin([[1, 1, 0], [1, 0, 1], [0, 1, 1]]), MINIMA), [[2], [3, 2, 2, 2]])


if __name__ == "__main__":
    unittest.main()
