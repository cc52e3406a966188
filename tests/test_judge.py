import itertools
import unittest

from helper import (EDGES, MOST, REDUCED, WALLS, all_steps_of_two, ask, ask_last, begin, has, judge, judge_by_search,
                    judge_rows, leads_to, nearest, opposite, points_of, size, some_places, some_steps)

UNIT = [[1, 0], [0, 1]]
CUBE = [[1, 0, 0], [0, 1, 0], [0, 0, 1]]
STEPS = [[2, 1], [0, 3]]
HALVES = [[1, 1, 0], [1, 0, 1], [0, 1, 1]]
MIDDLES = [[1, 1, 1], [1, -1, 1], [1, 1, -1]]


def judged(steps, told):
    return ask_last(begin(steps), judge(told))


def judged_all(steps, places):
    """The answers of many places, asked 29 to a line."""
    found = []
    for some in range(0, len(places), 29):
        found += ask(begin(steps), *[judge(told) for told in places[some:some + 29]])[1:]
    return found


def wall_points(steps):
    return points_of(ask_last(begin(steps), WALLS)[1:], len(steps))


def walls_that_tell(walls, told):
    """The walls, and opposites of walls, that the place is nearer to than to the origin."""
    both = walls + [opposite(v) for v in walls]
    return [v for v in both if size([t - 2 * x for t, x in zip(told, v)]) < size(told)]


def about(point, side):
    return itertools.product(*(range(x - side, x + side + 1) for x in point))


class Judge(unittest.TestCase):
    def test_before_any_begin(self):
        self.assertEqual(ask(judge([1, -1]), judge([2, 0])), [[1], [0]])

    def test_inside_and_outside(self):
        self.assertEqual(judged(STEPS, [1, 0]), [1])
        self.assertEqual(judged(STEPS, [3, 0]), [0])
        self.assertEqual(judged(STEPS, [-1, 2]), [1])
        self.assertEqual(judged(STEPS, [-2, 4]), [0])
        self.assertEqual(judged([[9, 9, 9], [9, -9, 9], [9, 9, -9]], [12, -2, 1]), [1])
        self.assertEqual(judged([[9, 9, 9], [9, -9, 9], [9, 9, -9]], [13, 13, 2]), [0])

    def test_the_origin_itself(self):
        for steps in EDGES:
            self.assertEqual(judged(steps, [0] * len(steps)), [1], steps)

    def test_a_place_that_is_led_to(self):
        self.assertEqual(judged(STEPS, [4, 2]), [0])
        self.assertEqual(judged(STEPS, [-4, -2]), [0])
        self.assertEqual(judged(HALVES, [0, 2, -2]), [0])

    def test_the_place_is_half_of_what_is_told(self):
        nine = [[9, 0], [0, 9]]
        self.assertEqual([judged(nine, [x, 0]) for x in [8, 9, 10]], [[1], [1], [0]])
        self.assertEqual([judged(nine, [0, -x]) for x in [8, 9, 10]], [[1], [1], [0]])

    def test_on_the_edge(self):
        self.assertEqual(judged(UNIT, [1, 0]), [1])
        self.assertEqual(judged(UNIT, [1, 1]), [1])
        self.assertEqual(judged(UNIT, [-1, 1]), [1])
        self.assertEqual(judged(CUBE, [1, -1, 1]), [1])
        self.assertEqual(judged(HALVES, [2, 0, 0]), [1])
        self.assertEqual(judged(HALVES, [1, 1, 1]), [1])
        self.assertEqual(judged([[1, 1], [1, -1]], [0, 2]), [1])
        for steps in EDGES + some_steps(2, 200, 9, 101) + some_steps(3, 100, 9, 102):
            for v in wall_points(steps):
                self.assertEqual(judged(steps, v), [1], (steps, v))
                self.assertEqual(judged(steps, opposite(v)), [1], (steps, v))

    def test_plus_less_minus(self):
        self.assertEqual(ask(judge_rows([MOST, 5], [MOST - 1, 6]), judge_rows([MOST, 5], [MOST - 2, 5])), [[1], [0]])
        self.assertEqual(ask(judge_rows([7, 0], [8, 0]), judge_rows([7, 0], [9, 0])), [[1], [0]])

    def test_the_steps_are_as_they_were(self):
        told = ask(begin(STEPS), judge([1, 0]), judge([9, 9]), REDUCED, has([2, 1]))
        self.assertEqual(told[3:], [[2, 2, 1, 2, -2], [1, 1, 0]])


class Search(unittest.TestCase):
    """No point led to is nearer than the origin."""

    def agrees(self, steps, places):
        found = judged_all(steps, places)
        self.assertEqual(found, [[judge_by_search(steps, told)] for told in places], steps)
        return found

    def test_all_places_about_short_steps_of_two(self):
        places = list(itertools.product(range(-4, 5), repeat=2))
        for steps in all_steps_of_two(1) + some_steps(2, 40, 3, 103):
            self.agrees(steps, places)

    def test_all_places_about_short_steps_of_three(self):
        places = list(itertools.product(range(-3, 4), repeat=3))
        for steps in [CUBE, HALVES, MIDDLES, [[2, 0, 0], [0, 2, 0], [1, 1, 3]], [[3, 0, 0], [1, 3, 0], [1, 1, 3]]]:
            self.assertIn([1], self.agrees(steps, places))

    def test_long_steps(self):
        for n, count, seed in [(2, 120, 104), (3, 40, 105)]:
            answers = []
            for k, steps in enumerate(some_steps(n, count, 9, seed)):
                places = some_places(n, 8, 5, k) + some_places(n, 4, 12, k) + some_places(n, 2, 100, k)
                answers += self.agrees(steps, places)
            self.assertGreater(answers.count([0]), 100)
            self.assertGreater(answers.count([1]), 100)

    def test_at_the_edges(self):
        for steps in EDGES:
            n = len(steps)
            self.agrees(steps, some_places(n, 10, 9, 106) + [[100] * n, [-100] * n, [1] * n, [-1] + [1] * (n - 1)])

    def test_all_points_in_one_great_box(self):
        for steps in [STEPS, [[9, 2], [-3, 8]], HALVES, [[5, 0, 1], [1, 4, 2], [-2, 1, 6]]]:
            n = len(steps)
            is_led_to = leads_to(steps)
            box = [point for point in itertools.product(range(-14, 15), repeat=n) if is_led_to(point)]
            # a point that is nearer to the place than the origin is no longer than what is told, so it's in the box
            places = some_places(n, 15, 8, 107)
            for told, answer in zip(places, judged_all(steps, places)):
                nearer = any(size([t - 2 * x for t, x in zip(told, point)]) < size(told) for point in box)
                self.assertEqual(answer, [int(not nearer)], (steps, told))

    def test_as_nearest_tells(self):
        for steps in some_steps(2, 60, 9, 108) + some_steps(3, 60, 9, 109):
            n = len(steps)
            for told in some_places(n, 3, 8, 110):
                answer = ask(begin(steps), nearest(told, 2), judge(told))
                origin = tuple([0] * n) in points_of(answer[1][2:], n)
                self.assertEqual(answer[2], [int(origin)], (steps, told))


class Promise(unittest.TestCase):
    """The walls tell the cell, and none of them can be spared."""

    def test_the_walls_tell(self):
        for n, count, seed in [(2, 150, 111), (3, 120, 112)]:
            answers = []
            for k, steps in enumerate(some_steps(n, count, 9, seed) + some_steps(n, count, 3, seed + 10)):
                walls = wall_points(steps)
                places = some_places(n, 20, 6, k) + some_places(n, 5, 15, k) + some_places(n, 3, 100, k)
                found = judged_all(steps, places)
                self.assertEqual(found, [[int(not walls_that_tell(walls, told))] for told in places], steps)
                answers += found
            self.assertGreater(answers.count([0]), 1000)
            self.assertGreater(answers.count([1]), 1000)

    def test_the_walls_tell_at_the_edges(self):
        for steps in EDGES:
            walls = wall_points(steps)
            places = some_places(len(steps), 29, 3, 113) + some_places(len(steps), 29, 30, 114)
            for v in walls:
                places += [told for told in about(v, 1)]
            found = judged_all(steps, places)
            self.assertEqual(found, [[int(not walls_that_tell(walls, told))] for told in places], steps)

    def place_told_by_alone(self, walls, v):
        """What is told of a place that this wall alone tells of; None where no whole or half numbers are so."""
        return next((told for told in about(v, 2) if walls_that_tell(walls, told) == [v]), None)

    def check_told_by_alone(self, steps, told):
        self.assertEqual(judged(steps, told), [0], (steps, told))
        self.assertEqual(judge_by_search(steps, told), 0, (steps, told))
        self.assertEqual(judged(steps, opposite(told)), [0], (steps, told))

    def test_for_each_wall_a_place_that_it_alone_tells_of(self):
        for steps in [UNIT, STEPS, [[4, 0], [2, 3]], [[9, 8], [8, 7]], [[9, 0], [0, 9]], [[9, 2], [-3, 8]],
                      CUBE, HALVES, MIDDLES, [[4, 0, 0], [2, 3, 0], [0, 0, 1]], [[2, 0, 0], [0, 2, 0], [1, 1, 3]],
                      [[9, 9, 9], [9, -9, 9], [9, 9, -9]], [[5, 0, 1], [1, 4, 2], [-2, 1, 6]]]:
            walls = wall_points(steps)
            for v in walls:
                told = self.place_told_by_alone(walls, v)
                self.assertIsNotNone(told, (steps, v))
                self.check_told_by_alone(steps, told)

    def test_for_nearly_each_wall_of_many_steps_such_a_half_place(self):
        rows = EDGES + all_steps_of_two(2) + some_steps(2, 150, 9, 115) + some_steps(3, 60, 2, 116)
        asked = 0
        found = 0
        for steps in rows + some_steps(3, 60, 9, 117):
            walls = wall_points(steps)
            for v in walls:
                told = self.place_told_by_alone(walls, v)
                asked += 1
                if told is not None:
                    found += 1
                    self.check_told_by_alone(steps, told)
        self.assertGreater(10 * found, 9 * asked)

    def test_halfway_to_a_wall_nothing_else_is_as_near(self):
        # so of the places a little beyond the half, the wall alone tells
        rows = EDGES + all_steps_of_two(2) + some_steps(2, 300, 9, 118) + some_steps(3, 300, 9, 119)
        for steps in rows:
            for v in wall_points(steps):
                told = ask_last(begin(steps), nearest(v, 2))
                self.assertEqual(told, [2, size(v)] + [0] * len(v) + list(v), (steps, v))


class Refusals(unittest.TestCase):
    def test_not_n_numbers(self):
        for count in [0, 1, 3, 4, 1024]:
            self.assertEqual(ask_last(judge_rows([0] * count, [0] * count)), [-3])
        for count in [0, 1, 2, 4, 9, 1024]:
            self.assertEqual(ask_last(begin(CUBE), judge_rows([0] * count, [0] * count)), [-3])

    def test_not_as_long_as_each_other(self):
        for other in [0, 1, 3, 1024]:
            self.assertEqual(ask_last(judge_rows([0, 0], [0] * other)), [-3])
            self.assertEqual(ask_last(judge_rows([0] * other, [0, 0])), [-3])
        for other in [0, 2, 4, 1024]:
            self.assertEqual(ask_last(begin(CUBE), judge_rows([0] * 3, [0] * other)), [-3])
            self.assertEqual(ask_last(begin(CUBE), judge_rows([0] * other, [0] * 3)), [-3])

    def test_beyond_100(self):
        for far in [101, 102, 1000, MOST]:
            self.assertEqual(ask_last(judge_rows([far, 0], [0, 0])), [-1])
            self.assertEqual(ask_last(judge_rows([0, far], [0, 0])), [-1])
            self.assertEqual(ask_last(judge_rows([0, 0], [far, 0])), [-1])
            self.assertEqual(ask_last(judge_rows([0, 0], [0, far])), [-1])
            self.assertEqual(ask_last(begin(CUBE), judge_rows([0, 0, far], [0] * 3)), [-1])
            self.assertEqual(ask_last(begin(CUBE), judge_rows([0] * 3, [0, 0, far])), [-1])

    def test_100_itself_is_taken(self):
        self.assertEqual(ask_last(judge([100, -100])), [0])
        self.assertEqual(ask_last(begin(CUBE), judge([-100, 100, -100])), [0])
        self.assertEqual(ask_last(judge_rows([MOST, 0], [MOST - 101, 0])), [-1])

    def test_of_several_the_one_told_first(self):
        self.assertEqual(ask_last(judge_rows([101], [0])), [-3])
        self.assertEqual(ask_last(judge_rows([MOST] * 1024, [0] * 1024)), [-3])
        self.assertEqual(ask_last(judge_rows([101, 0], [0])), [-3])
        self.assertEqual(ask_last(judge_rows([101, 0], [0, 0, 0])), [-3])

    def test_a_refusal_leaves_the_steps(self):
        for refused in [judge([101, 0]), judge([1])]:
            self.assertEqual(ask(begin(STEPS), refused, REDUCED)[2], [2, 2, 1, 2, -2])


if __name__ == "__main__":
    unittest.main()
