import itertools
import unittest

from helper import (EDGES, MINIMA, REDUCED, WALLS, all_steps_of_two, ask, ask_last, begin, forward, in_order, leads_to,
                    opposite, points_of, size, some_steps, taken, walls_by_search)

UNIT = [[1, 0], [0, 1]]
CUBE = [[1, 0, 0], [0, 1, 0], [0, 0, 1]]
HALVES = [[1, 1, 0], [1, 0, 1], [0, 1, 1]]
MIDDLES = [[1, 1, 1], [1, -1, 1], [1, 1, -1]]


def walls(steps):
    return ask_last(begin(steps), WALLS)


def wall_points(steps):
    told = walls(steps)
    points = points_of(told[1:], len(steps))
    assert told[0] == len(points)
    return points


class Walls(unittest.TestCase):
    def agrees(self, steps):
        found = walls_by_search(steps)
        flat = [x for point in found for x in point]
        self.assertEqual(walls(steps), [len(found)] + flat, steps)

    def test_before_any_begin(self):
        self.assertEqual(ask_last(WALLS), [2, 1, 0, 0, 1])

    def test_as_few_as_can_be(self):
        self.assertEqual(walls(UNIT), [2, 1, 0, 0, 1])
        self.assertEqual(walls([[0, -7], [-2, 0]]), [2, 2, 0, 0, 7])
        self.assertEqual(walls([[3, 4], [4, -3]]), [2, 4, -3, 3, 4])
        self.assertEqual(walls(CUBE), [3, 1, 0, 0, 0, 1, 0, 0, 0, 1])
        self.assertEqual(walls([[0, 0, 5], [0, -2, 0], [9, 0, 0]]), [3, 0, 2, 0, 0, 0, 5, 9, 0, 0])

    def test_as_many_as_can_be(self):
        self.assertEqual(walls([[4, 0], [2, 3]]), [3, 2, 3, 2, -3, 4, 0])
        self.assertEqual(walls([[2, 1], [0, 3]]), [3, 2, 1, 2, -2, 0, 3])
        self.assertEqual(walls(MIDDLES), [
            7, 1, 1, 1, 1, 1, -1, 1, -1, 1, 1, -1, -1, 2, 0, 0, 0, 2, 0, 0, 0, 2])

    def test_numbers_between(self):
        self.assertEqual(walls([[4, 0, 0], [2, 3, 0], [0, 0, 1]]), [
            4, 0, 0, 1, 2, 3, 0, 2, -3, 0, 4, 0, 0])
        self.assertEqual(walls(HALVES), [
            6, 1, 1, 0, 1, 0, 1, 1, 0, -1, 1, -1, 0, 0, 1, 1, 0, 1, -1])
        self.assertEqual(walls([[2, 0, 0], [0, 2, 0], [1, 1, 3]]), [
            6, 2, 0, 0, 0, 2, 0, 1, 1, 3, 1, 1, -3, 1, -1, 3, 1, -1, -3])

    def test_how_many_there_are(self):
        self.assertEqual({walls(steps)[0] for steps in all_steps_of_two(3)}, {2, 3})
        self.assertEqual({walls(steps)[0] for steps in EDGES + some_steps(3, 150, 2, 91) if len(steps) == 3},
                         {3, 4, 6, 7})

    def test_four_as_short_beside_each_other_are_no_walls(self):
        # 1 1 and 1 -1 differ by twice 0 1, and are as long
        self.assertNotIn((1, 1), wall_points(UNIT))
        self.assertNotIn((1, -1), wall_points(UNIT))
        self.assertNotIn((2, 0, 0), wall_points(HALVES))

    def test_long_steps_to_the_same_points(self):
        self.assertEqual(walls([[9, 8], [8, 7]]), walls(UNIT))
        self.assertEqual(walls([[9, 8, 0], [8, 7, 0], [9, 9, 1]]), walls(CUBE))
        self.assertEqual(walls([[9, 9, 9], [9, 9, 8], [9, 8, 9]]), [3, 0, 1, 0, 0, 0, 1, 9, 0, 0])
        self.assertEqual(walls([[1, 1, 1], [2, 0, 0], [0, 2, 0]]), walls(MIDDLES))
        self.assertEqual(walls([[9, 5, 2], [8, 5, 1], [1, 1, 0]]), walls(HALVES))

    def test_the_steps_are_as_they_were(self):
        for steps in [[[2, 1], [0, 3]], HALVES]:
            before = ask(begin(steps), REDUCED, MINIMA)
            self.assertEqual(ask(begin(steps), WALLS, REDUCED, MINIMA, WALLS)[2:4], before[1:])

    def test_against_a_search_with_two_steps(self):
        for steps in all_steps_of_two(2) + some_steps(2, 300, 9, 92):
            self.agrees(steps)

    def test_against_a_search_with_three_steps(self):
        for steps in some_steps(3, 200, 2, 93) + some_steps(3, 50, 9, 94):
            self.agrees(steps)

    def test_against_a_search_at_the_edges(self):
        for steps in EDGES:
            self.agrees(steps)


class Sentence(unittest.TestCase):
    """Each told wall against the document's own words."""

    def check(self, steps, v):
        is_led_to = leads_to(steps)
        side = 0
        while side * side < size(v):
            side += 1
        # a point outside this box is longer than v
        for w in itertools.product(range(-side, side + 1), repeat=len(v)):
            halves = [(x - y) // 2 for x, y in zip(w, v)]
            twice = all((x - y) % 2 == 0 for x, y in zip(w, v)) and is_led_to(halves)
            if twice and w not in (v, opposite(v)):
                self.assertGreater(size(w), size(v), (steps, v, w))

    def test_what_differs_by_twice_a_point_led_to_is_longer(self):
        rows = EDGES + some_steps(2, 150, 9, 95) + some_steps(3, 60, 3, 96) + some_steps(3, 12, 9, 97)
        for steps in rows:
            for v in wall_points(steps):
                self.check(steps, v)

    def test_forward_led_to_and_in_order(self):
        for steps in EDGES + some_steps(2, 300, 9, 98) + some_steps(3, 300, 9, 99):
            points = wall_points(steps)
            self.assertEqual(points, in_order(set(points)), steps)
            for v in points:
                self.assertTrue(forward(v), steps)
                self.assertIsNotNone(taken(steps, v), steps)


if __name__ == "__main__":
    unittest.main()
