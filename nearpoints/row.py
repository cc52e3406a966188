"""The row of steps that the calls are about, with what each call answers or refuses."""

from nearpoints.cell import nearest_points, wall_points
from nearpoints.points import determinant, lead_to_the_same, left_over, length, times_taken
from nearpoints.search import different_lengths, reduced_steps, shortest_points

WRONG_NUMBER = -1
WRONG_COUNT = -3
LIES_WHERE_OTHERS_LEAD = -4

MOST_OF_STEP = 9
MOST_OF_POINT = 100
MOST_OF_Q = 10


def told_numbers(plus, minus):
    return [more - less for more, less in zip(plus, minus)]


def refusal_of_told(plus, minus, count, most):
    """The refusal of two lists that should tell so many numbers, none beyond the most; 0 if there is none."""
    if len(plus) != count or len(minus) != count:
        return WRONG_COUNT
    if any([abs(number) > most for number in told_numbers(plus, minus)]):
        return WRONG_NUMBER
    return 0


def told_steps(plus, minus, n):
    numbers = told_numbers(plus, minus)
    return [numbers[k * n:k * n + n] for k in range(n)]


def refusal_of_steps(plus, minus, n):
    """The refusal of two lists that should tell n steps; 0 if there is none."""
    refusal = refusal_of_told(plus, minus, n * n, MOST_OF_STEP)
    if refusal == 0 and determinant(told_steps(plus, minus, n)) == 0:
        return LIES_WHERE_OTHERS_LEAD
    return refusal


def one_behind_another(points):
    numbers = []
    for point in points:
        numbers.extend(point)
    return numbers


class StepRow:
    """The steps are kept reduced: these lead to the same points, and every call asks for the points alone."""

    def __init__(self):
        self.basis = [[1, 0], [0, 1]]

    def begin(self, n, plus, minus):
        if n != 2 and n != 3:
            return [WRONG_NUMBER]
        refusal = refusal_of_steps(plus, minus, n)
        if refusal != 0:
            return [refusal]
        steps = told_steps(plus, minus, n)
        self.basis = reduced_steps(steps)
        return [abs(determinant(steps))]

    def shortest(self):
        points = shortest_points(self.basis)
        return [len(points), length(points[0])] + one_behind_another(points)

    def minima(self):
        return [len(self.basis)] + different_lengths(self.basis)

    def reduced(self):
        return [len(self.basis)] + one_behind_another(self.basis)

    def has(self, plus, minus):
        refusal = refusal_of_told(plus, minus, len(self.basis), MOST_OF_POINT)
        if refusal != 0:
            return [refusal]
        times = times_taken(self.basis, told_numbers(plus, minus))
        if times is None:
            return [0]
        return [1] + times

    def same(self, plus, minus):
        n = len(self.basis)
        refusal = refusal_of_steps(plus, minus, n)
        if refusal != 0:
            return [refusal]
        return [1 if lead_to_the_same(self.basis, told_steps(plus, minus, n)) else 0]

    def nearest(self, q, plus, minus):
        if q < 1 or q > MOST_OF_Q:
            return [WRONG_NUMBER]
        refusal = refusal_of_told(plus, minus, len(self.basis), MOST_OF_POINT)
        if refusal != 0:
            return [refusal]
        told = told_numbers(plus, minus)
        points = nearest_points(self.basis, told, q)
        return [len(points), length(left_over(told, q, points[0]))] + one_behind_another(points)

    def walls(self):
        points = wall_points(self.basis)
        return [len(points)] + one_behind_another(points)

    def judge(self, plus, minus):
        refusal = refusal_of_told(plus, minus, len(self.basis), MOST_OF_POINT)
        if refusal != 0:
            return [refusal]
        origin = [0 for step in self.basis]
        return [1 if origin in nearest_points(self.basis, told_numbers(plus, minus), 2) else 0]
