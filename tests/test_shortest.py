import unittest

from helper import (EDGES, SHORTEST, all_steps_of_two, ask_last, begin, points_of, shortest_by_search, size,
                    some_steps)


def shortest(steps):
    return ask_last(begin(steps), SHORTEST)


class Shortest(unittest.TestCase):
    def agrees(self, steps):
        told = shortest(steps)
        found = shortest_by_search(steps)
        self.assertEqual(told[:2], [len(found), size(found[0])], steps)
        self.assertEqual(points_of(told[2:], len(steps)), found, steps)

    def test_before_any_begin(self):
        self.assertEqual(ask_last(SHORTEST), [2, 1, 1, 0, 0, 1])

    def test_one(self):
        self.assertEqual(shortest([[2, 1], [0, 5]]), [1, 5, 2, 1])
        self.assertEqual(shortest([[0, 2], [3, 0]]), [1, 4, 0, 2])
        self.assertEqual(shortest([[3, 0, 0], [0, -2, 0], [0, 0, 4]]), [1, 4, 0, 2, 0])

    def test_as_short_with_two_steps(self):
        self.assertEqual(shortest([[0, 9], [9, 0]]), [2, 81, 9, 0, 0, 9])
        self.assertEqual(shortest([[-1, 1], [1, 1]]), [2, 2, 1, 1, 1, -1])
        self.assertEqual(shortest([[1, -2], [0, 5]]), [2, 5, 2, 1, 1, -2])

    def test_three_as_short_are_not_met_with_two_whole_steps(self):
        # two whole steps that are as long as their sum would have a determinant whose square is 3 times a square
        counts = {shortest(steps)[0] for steps in all_steps_of_two(3)}
        self.assertEqual(counts, {1, 2})

    def test_as_short_with_three_steps(self):
        self.assertEqual(shortest([[1, 0, 0], [0, 1, 0], [0, 0, 1]]), [3, 1, 1, 0, 0, 0, 1, 0, 0, 0, 1])
        self.assertEqual(shortest([[1, -1, 0], [0, 1, -1], [9, 9, 9]]), [3, 2, 1, 0, -1, 1, -1, 0, 0, 1, -1])
        self.assertEqual(
            shortest([[1, 1, 1], [1, -1, 1], [1, 1, -1]]),
            [4, 3, 1, 1, 1, 1, 1, -1, 1, -1, 1, 1, -1, -1])
        self.assertEqual(
            shortest([[1, 1, 0], [1, 0, 1], [0, 1, 1]]),
            [6, 2, 1, 1, 0, 1, 0, 1, 1, 0, -1, 1, -1, 0, 0, 1, 1, 0, 1, -1])

    def test_long_steps_with_a_short_point(self):
        self.assertEqual(shortest([[9, 8], [8, 7]]), [2, 1, 1, 0, 0, 1])
        self.assertEqual(shortest([[9, 7], [8, 7]]), [1, 1, 1, 0])
        self.assertEqual(shortest([[9, 9, 9], [9, 9, 8], [-9, -8, -9]]), [2, 1, 0, 1, 0, 0, 0, 1])
        self.assertEqual(shortest([[9, -9, 0], [0, 9, -9], [-9, 0, 8]]), [1, 1, 0, 0, 1])

    def test_against_a_search_with_two_steps(self):
        for steps in all_steps_of_two(2) + some_steps(2, 400, 9, 11):
            self.agrees(steps)

    def test_against_a_search_with_three_steps(self):
        for steps in some_steps(3, 150, 2, 12) + some_steps(3, 40, 9, 13):
            self.agrees(steps)

    def test_against_a_search_at_the_edges(self):
        for steps in EDGES:
            self.agrees(steps)


if __name__ == "__main__":
    unittest.main()
