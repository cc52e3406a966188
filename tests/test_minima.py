import unittest

from helper import EDGES, MINIMA, all_steps_of_two, ask_last, begin, minima_by_search, some_steps


def minima(steps):
    return ask_last(begin(steps), MINIMA)


class Minima(unittest.TestCase):
    def agrees(self, steps):
        self.assertEqual(minima(steps), [len(steps)] + minima_by_search(steps), steps)

    def test_before_any_begin(self):
        self.assertEqual(ask_last(MINIMA), [2, 1, 1])

    def test_different_lengths(self):
        self.assertEqual(minima([[0, 5], [2, 0]]), [2, 4, 25])
        self.assertEqual(minima([[0, 0, 9], [0, 3, 0], [1, 0, 0]]), [3, 1, 9, 81])

    def test_shortest_points_in_one_line(self):
        self.assertEqual(minima([[1, 0], [5, 9]]), [2, 1, 81])
        self.assertEqual(minima([[1, 0, 0], [0, 9, 9], [0, 9, -9]]), [3, 1, 162, 162])
        self.assertEqual(minima([[1, 1, 0], [9, -9, 0], [0, 0, 9]]), [3, 2, 81, 162])

    def test_shortest_points_in_one_plane(self):
        self.assertEqual(minima([[1, 0, 0], [0, 1, 0], [7, -3, 9]]), [3, 1, 1, 81])
        self.assertEqual(minima([[1, -1, 0], [0, 1, -1], [9, 9, 9]]), [3, 2, 2, 243])

    def test_against_a_search_with_two_steps(self):
        for steps in all_steps_of_two(2) + some_steps(2, 300, 9, 21):
            self.agrees(steps)

    def test_against_a_search_with_three_steps(self):
        for steps in some_steps(3, 150, 2, 22) + some_steps(3, 40, 9, 23):
            self.agrees(steps)

    def test_against_a_search_at_the_edges(self):
        for steps in EDGES:
            self.agrees(steps)


if __name__ == "__main__":
    unittest.main()
