import itertools
import unittest

from helper import (EDGES, MOST, REDUCED, all_steps_of_two, ask, ask_last, away, begin, has, nearest,
                    nearest_by_search, nearest_rows, points_of, some_places, some_steps)

UNIT = [[1, 0], [0, 1]]
CUBE = [[1, 0, 0], [0, 1, 0], [0, 0, 1]]
STEPS = [[2, 1], [0, 3]]
HALVES = [[1, 1, 0], [1, 0, 1], [0, 1, 1]]


def nearest_to(steps, told, q):
    return ask_last(begin(steps), nearest(told, q))


class Nearest(unittest.TestCase):
    def test_before_any_begin(self):
        self.assertEqual(ask_last(nearest([7, -4], 3)), [1, 2, 2, -1])

    def test_one(self):
        self.assertEqual(nearest_to(STEPS, [5, 5], 1), [1, 1, 4, 5])
        self.assertEqual(nearest_to([[9, 0], [0, 9]], [5, 4], 1), [1, 32, 9, 0])
        self.assertEqual(nearest_to(HALVES, [9, 1, 2], 4), [1, 6, 2, 0, 0])

    def test_a_place_that_is_led_to(self):
        self.assertEqual(nearest_to(STEPS, [4, 5], 1), [1, 0, 4, 5])
        self.assertEqual(nearest_to(STEPS, [-20, 20], 10), [1, 0, -2, 2])
        self.assertEqual(nearest_to(STEPS, [0, 0], 7), [1, 0, 0, 0])
        self.assertEqual(nearest_to(HALVES, [-9, 9, 18], 9), [1, 0, -1, 1, 2])
        self.assertEqual(nearest_to(HALVES, [0, 0, 0], 1), [1, 0, 0, 0, 0])

    def test_as_near_to_several(self):
        self.assertEqual(nearest_to(UNIT, [1, 0], 2), [2, 1, 0, 0, 1, 0])
        self.assertEqual(nearest_to(UNIT, [5, 5], 10), [4, 50, 0, 0, 1, 0, 0, 1, 1, 1])
        self.assertEqual(nearest_to([[9, 0], [0, 9]], [9, 9], 2), [4, 162, 0, 0, 9, 0, 0, 9, 9, 9])
        self.assertEqual(nearest_to([[1, 1], [1, -1]], [1, 0], 1), [4, 1, 0, 0, 1, 1, 1, -1, 2, 0])
        self.assertEqual(nearest_to([[4, 0], [2, 3]], [12, 5], 6), [3, 169, 0, 0, 2, 3, 4, 0])
        self.assertEqual(nearest_to(CUBE, [1, 1, 1], 2), [
            8, 3, 0, 0, 0, 1, 0, 0, 0, 1, 0, 0, 0, 1, 1, 1, 0, 1, 0, 1, 0, 1, 1, 1, 1, 1])
        self.assertEqual(nearest_to(HALVES, [1, 0, 0], 1), [
            6, 1, 0, 0, 0, 1, 1, 0, 1, 0, 1, 1, 0, -1, 1, -1, 0, 2, 0, 0])
        self.assertEqual(nearest_to(HALVES, [1, 1, 1], 2), [4, 3, 0, 0, 0, 1, 1, 0, 1, 0, 1, 0, 1, 1])

    def test_the_shorter_first_however_they_lie_about_the_place(self):
        self.assertEqual(nearest_to(UNIT, [-5, -5], 2), [4, 2, -2, -2, -2, -3, -3, -2, -3, -3])
        self.assertEqual(nearest_to(UNIT, [-1, 5], 2), [4, 2, 0, 2, -1, 2, 0, 3, -1, 3])
        self.assertEqual(nearest_to(UNIT, [-1, 0], 2), [2, 1, 0, 0, -1, 0])

    def test_of_as_long_ones_the_greater_number_where_they_first_differ(self):
        self.assertEqual(nearest_to([[1, 1], [1, -1]], [0, 1], 1), [4, 1, 0, 0, 1, 1, -1, 1, 0, 2])
        self.assertEqual(nearest_to([[1, 1], [1, -1]], [-1, 0], 1), [4, 1, 0, 0, -1, 1, -1, -1, -2, 0])
        self.assertEqual(nearest_to([[3, 4], [4, 3]], [7, 7], 2), [2, 2, 4, 3, 3, 4])

    def test_numbers_below_0(self):
        self.assertEqual(nearest_to(UNIT, [-7, 4], 3), [1, 2, -2, 1])
        self.assertEqual(nearest_to(UNIT, [-1, -1], 10), [1, 2, 0, 0])
        self.assertEqual(nearest_to(UNIT, [-9, -9], 10), [1, 2, -1, -1])
        self.assertEqual(nearest_to([[0, -5], [-5, 0]], [-100, -98], 1), [1, 4, -100, -100])

    def test_a_place_and_its_opposite(self):
        for steps in some_steps(2, 40, 9, 71) + some_steps(3, 40, 9, 72):
            told = [7 * x % 23 - 11 for x in range(3, 3 + len(steps))]
            one = nearest_to(steps, told, 3)
            other = nearest_to(steps, [-x for x in told], 3)
            self.assertEqual(one[:2], other[:2])
            there = points_of(one[2:], len(steps))
            back = [tuple(-x for x in point) for point in points_of(other[2:], len(steps))]
            self.assertEqual(sorted(there), sorted(back))

    def test_each_q(self):
        for q in range(1, 11):
            self.assertEqual(nearest_to([[0, 3], [3, 0]], [3 * q + 1, -1], q), [1, 2, 3, 0])
            self.assertEqual(nearest_to([[2, 0], [0, 2]], [q, -q], q),
                             [4, 2 * q * q, 0, 0, 2, 0, 0, -2, 2, -2])
            self.assertEqual(nearest_to(STEPS, [2 * q, q], q), [1, 0, 2, 1])

    def test_long_steps_to_the_same_points(self):
        for told, q in [([5, 5], 10), ([37, -81], 7), ([-100, 99], 3)]:
            self.assertEqual(nearest_to([[9, 8], [8, 7]], told, q), nearest_to(UNIT, told, q))

    def test_plus_less_minus(self):
        self.assertEqual(ask_last(nearest_rows(1, [MOST, 5], [MOST - 100, 105])), [1, 0, 100, -100])
        self.assertEqual(ask_last(nearest_rows(3, [7, 0], [9, 0])), [1, 1, -1, 0])

    def test_the_steps_are_as_they_were(self):
        told = ask(begin(STEPS), nearest([37, 11], 9), REDUCED, has([2, 1]))
        self.assertEqual(told[2:], [[2, 2, 1, 2, -2], [1, 1, 0]])


class Promise(unittest.TestCase):
    """No point led to is nearer than the nearest, and all as near are told."""

    def agrees(self, steps, told, q):
        least, points = nearest_by_search(steps, told, q)
        flat = [x for point in points for x in point]
        self.assertEqual(nearest_to(steps, told, q), [len(points), least] + flat, (steps, told, q))

    def test_all_places_about_a_few_steps(self):
        for steps in [UNIT, STEPS, [[2, 0], [0, 2]], [[4, 0], [2, 3]], [[1, 0], [0, 9]]]:
            for told in itertools.product(range(-8, 9), repeat=2):
                self.agrees(steps, told, 2)
        for steps in [CUBE, HALVES, [[1, 1, 1], [1, -1, 1], [1, 1, -1]], [[2, 0, 0], [0, 2, 0], [1, 1, 3]]]:
            for told in itertools.product(range(-3, 4), repeat=3):
                self.agrees(steps, told, 2)

    def test_all_short_steps_of_two(self):
        for k, steps in enumerate(all_steps_of_two(2)):
            self.agrees(steps, [k % 201 - 100, k % 7 - 3], k % 10 + 1)

    def test_with_two_steps(self):
        places = some_places(2, 600, 100, 73)
        for k, steps in enumerate(some_steps(2, 600, 9, 74)):
            self.agrees(steps, places[k], k % 10 + 1)

    def test_with_three_steps(self):
        places = some_places(3, 250, 100, 75)
        for k, steps in enumerate(some_steps(3, 250, 9, 76)):
            self.agrees(steps, places[k], k % 10 + 1)

    def test_with_three_short_steps(self):
        places = some_places(3, 400, 100, 77)
        for k, steps in enumerate(some_steps(3, 400, 2, 78)):
            self.agrees(steps, places[k], k % 4 + 1)

    def test_at_the_edges(self):
        for steps in EDGES:
            n = len(steps)
            halfway = [sum(step[k] for step in steps) for k in range(n)]
            for told, q in [(halfway, 2), ([100] * n, 1), ([-100] * n, 10), ([100, -100, 99][:n], 7)]:
                self.agrees(steps, told, q)

    def test_halfway_between_steps(self):
        for steps in some_steps(2, 100, 9, 79) + some_steps(3, 60, 9, 80):
            for times in itertools.product([0, 1], repeat=len(steps)):
                told = [sum(often * step[k] for often, step in zip(times, steps)) for k in range(len(steps))]
                self.agrees(steps, told, 2)

    def test_none_of_the_told_is_out_of_place(self):
        for steps in some_steps(3, 50, 9, 81):
            told = nearest_to(steps, [100, -99, 98], 10)
            for point in points_of(told[2:], 3):
                self.assertEqual(away([100, -99, 98], 10, point), told[1])
                self.assertEqual(ask_last(begin(steps), has(point))[0], 1)


class Refusals(unittest.TestCase):
    def test_q(self):
        for q in [0, 11, 12, 100, MOST - 1, MOST]:
            self.assertEqual(ask_last(nearest_rows(q, [1, 2], [0, 0])), [-1])
            self.assertEqual(ask_last(begin(CUBE), nearest_rows(q, [1, 2, 3], [0, 0, 0])), [-1])

    def test_not_n_numbers(self):
        for count in [0, 1, 3, 4, 1024]:
            self.assertEqual(ask_last(nearest_rows(2, [0] * count, [0] * count)), [-3])
        for count in [0, 1, 2, 4, 9, 1024]:
            self.assertEqual(ask_last(begin(CUBE), nearest_rows(2, [0] * count, [0] * count)), [-3])

    def test_not_as_long_as_each_other(self):
        for other in [0, 1, 3, 1024]:
            self.assertEqual(ask_last(nearest_rows(2, [0, 0], [0] * other)), [-3])
            self.assertEqual(ask_last(nearest_rows(2, [0] * other, [0, 0])), [-3])
        for other in [0, 2, 4, 1024]:
            self.assertEqual(ask_last(begin(CUBE), nearest_rows(2, [0] * 3, [0] * other)), [-3])
            self.assertEqual(ask_last(begin(CUBE), nearest_rows(2, [0] * other, [0] * 3)), [-3])

    def test_beyond_100(self):
        for far in [101, 102, 1000, MOST]:
            for q in [1, 10]:
                for place in range(2):
                    numbers = [0, 0]
                    numbers[place] = far
                    self.assertEqual(ask_last(nearest_rows(q, numbers, [0, 0])), [-1])
                    self.assertEqual(ask_last(nearest_rows(q, [0, 0], numbers)), [-1])
                for place in range(3):
                    numbers = [0, 0, 0]
                    numbers[place] = far
                    self.assertEqual(ask_last(begin(CUBE), nearest_rows(q, numbers, [0] * 3)), [-1])
                    self.assertEqual(ask_last(begin(CUBE), nearest_rows(q, [0] * 3, numbers)), [-1])

    def test_100_itself_is_taken(self):
        self.assertEqual(ask_last(nearest([100, -100], 1)), [1, 0, 100, -100])
        self.assertEqual(ask_last(nearest([-100, 100], 10)), [1, 0, -10, 10])
        self.assertEqual(ask_last(begin(CUBE), nearest([100, -100, 100], 10)), [1, 0, 10, -10, 10])
        self.assertEqual(ask_last(nearest_rows(1, [MOST, 0], [MOST - 101, 0])), [-1])

    def test_of_several_the_one_told_first(self):
        self.assertEqual(ask_last(nearest_rows(0, [1], [0])), [-1])
        self.assertEqual(ask_last(nearest_rows(11, [0, 0], [0])), [-1])
        self.assertEqual(ask_last(nearest_rows(MOST, [MOST] * 1024, [0] * 7)), [-1])
        self.assertEqual(ask_last(nearest_rows(0, [101, 0], [0, 0])), [-1])
        self.assertEqual(ask_last(nearest_rows(1, [101], [0])), [-3])
        self.assertEqual(ask_last(nearest_rows(1, [101, 0], [0])), [-3])
        self.assertEqual(ask_last(nearest_rows(1, [101, 0], [0, 0, 0])), [-3])
        self.assertEqual(ask_last(nearest_rows(10, [MOST] * 1024, [0] * 1024)), [-3])

    def test_a_refusal_leaves_the_steps(self):
        for refused in [nearest([1, 1], 0), nearest([1, 1], 11), nearest([1], 2), nearest([101, 0], 2)]:
            self.assertEqual(ask(begin(STEPS), refused, REDUCED)[2], [2, 2, 1, 2, -2])


if __name__ == "__main__":
    unittest.main()
