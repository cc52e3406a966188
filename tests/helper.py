"""Tells calls and reads answers, and searches whole boxes of points without any of the program's own code."""

import itertools
import math
import operator
import random

from nearpoints.steps import answers

MOST = 18446744073709551615


def split(numbers):
    """Numbers as two lists, plus and minus."""
    return [max(x, 0) for x in numbers], [max(-x, 0) for x in numbers]


def two_rows(plus, minus):
    return [len(plus)] + plus + [len(minus)] + minus


def begin_rows(n, plus, minus):
    return [1, n] + two_rows(plus, minus)


def begin(steps):
    """The call begin for steps that are told as a list of points."""
    plus, minus = split([x for step in steps for x in step])
    return begin_rows(len(steps), plus, minus)


def has_rows(plus, minus):
    return [5] + two_rows(plus, minus)


def has(point):
    plus, minus = split(point)
    return has_rows(plus, minus)


def same_rows(plus, minus):
    return [6] + two_rows(plus, minus)


def same(steps):
    plus, minus = split([x for step in steps for x in step])
    return same_rows(plus, minus)


def nearest_rows(q, plus, minus):
    return [7, q] + two_rows(plus, minus)


def nearest(told, q):
    """The call nearest for the place whose numbers are told times q."""
    plus, minus = split(told)
    return nearest_rows(q, plus, minus)


def judge_rows(plus, minus):
    return [9] + two_rows(plus, minus)


def judge(told):
    """The call judge for the place whose numbers are told times 2."""
    plus, minus = split(told)
    return judge_rows(plus, minus)


SHORTEST = [2]
MINIMA = [3]
REDUCED = [4]
WALLS = [8]


def ask(*calls):
    """The answers of these calls on one row of steps, a list each."""
    told = answers([x for call in calls for x in call])
    found = []
    at = 0
    while at < len(told):
        found.append(told[at + 1:at + 1 + told[at]])
        at += 1 + told[at]
    assert at == len(told) and len(found) == len(calls)
    return found


def ask_last(*calls):
    return ask(*calls)[-1]


def points_of(numbers, n):
    assert len(numbers) % n == 0
    return [tuple(numbers[k:k + n]) for k in range(0, len(numbers), n)]


def size(point):
    return sum(x * x for x in point)


def det(rows):
    """The determinant, along the first row."""
    if len(rows) == 1:
        return rows[0][0]
    total = 0
    for k, x in enumerate(rows[0]):
        rest = [list(row[:k]) + list(row[k + 1:]) for row in rows[1:]]
        total += (-1) ** k * x * det(rest)
    return total


def rank(rows):
    """How many different ways the rows go: the size of the greatest minor that isn't 0."""
    for k in range(min(len(rows), len(rows[0])), 0, -1):
        for some in itertools.combinations(rows, k):
            for places in itertools.combinations(range(len(rows[0])), k):
                if det([[row[p] for p in places] for row in some]) != 0:
                    return k
    return 0


def taken(steps, point):
    """How often each step is taken (Cramer's rule), or None."""
    whole = det(steps)
    times = []
    for k in range(len(steps)):
        part = det([point if j == k else step for j, step in enumerate(steps)])
        if part % whole != 0:
            return None
        times.append(part // whole)
    return times


def forward(point):
    return next((x for x in point if x != 0), 0) > 0


def in_order(points):
    return sorted(points, key=lambda p: (size(p), [-x for x in p]))


def opposite(point):
    return tuple(-x for x in point)


def leads_to(steps):
    """What tells whether a point is led to: Cramer's rule, with the minors reckoned once."""
    n = len(steps)
    whole = det(steps)
    units = [[int(j == k) for j in range(n)] for k in range(n)]
    minors = [[det([unit if j == k else step for j, step in enumerate(steps)]) for unit in units] for k in range(n)]
    return lambda point: all(sum(map(operator.mul, row, point)) % whole == 0 for row in minors)


def led_to_in_box(steps):
    """All forward points that are led to and no longer than the longest step, in order."""
    limit = max(size(step) for step in steps)
    side = 0
    while (side + 1) ** 2 <= limit:
        side += 1
    found = []
    for point in itertools.product(range(-side, side + 1), repeat=len(steps)):
        if size(point) <= limit and forward(point) and taken(steps, point) is not None:
            found.append(point)
    return in_order(found)


def shortest_by_search(steps):
    points = led_to_in_box(steps)
    return [p for p in points if size(p) == size(points[0])]


def minima_by_search(steps):
    """The least lengths up to which 1, 2 and, if n is 3, 3 different ways are gone."""
    kept = []
    for point in led_to_in_box(steps):
        if len(kept) < len(steps) and rank(kept + [point]) == len(kept) + 1:
            kept.append(point)
    return [size(point) for point in kept]


def reduced_by_search(steps):
    """Each the first forward one for which points are there that go on to n steps with the same determinant."""
    points = led_to_in_box(steps)
    whole = abs(det(steps))
    chosen = []
    while len(chosen) < len(steps):
        missing = len(steps) - len(chosen) - 1
        chosen.append(next(
            point for point in points
            if rank(chosen + [point]) == len(chosen) + 1
            and any(abs(det(chosen + [point] + list(more))) == whole
                    for more in itertools.combinations(points, missing))))
    return chosen


def away(told, q, point):
    """The square of the distance from the place, times q times q."""
    return sum((t - q * x) ** 2 for t, x in zip(told, point))


def nearest_by_search(steps, told, q):
    """The square of the distance, times q times q, and the nearest points, in order.

    The box about the place grows until a point in it is no further off than its sides: what is outside is further.
    """
    is_led_to = leads_to(steps)
    side = 1
    while True:
        ranges = [range(t // q - side, t // q + side + 2) for t in told]
        found = [point for point in itertools.product(*ranges) if is_led_to(point)]
        least = min([away(told, q, point) for point in found], default=None)
        if least is not None and least <= (q * side) ** 2:
            return least, in_order(point for point in found if away(told, q, point) == least)
        side += 1


def judge_by_search(steps, told):
    return int(nearest_by_search(steps, told, 2)[0] >= size(told))


def walls_by_search(steps):
    """Each forward point such that all that differ from it by twice a point led to, but its opposite, are longer.

    The half of a wall is as near to the origin as to any point. Each place is so near to some point that four times
    the square of the distance is at most the lengths of the steps together; so no wall is longer than these.
    """
    limit = sum(size(step) for step in steps)
    side = math.isqrt(limit)
    is_led_to = leads_to(steps)
    box = itertools.product(range(-side, side + 1), repeat=len(steps))
    beside = {}
    for point in box:
        if size(point) <= limit and is_led_to(point):
            beside.setdefault(tuple(often % 2 for often in taken(steps, point)), []).append(point)
    found = []
    for points in beside.values():
        for v in points:
            if forward(v) and all(size(w) > size(v) or w in (v, opposite(v)) for w in points):
                found.append(v)
    return in_order(found)


def some_places(n, count, most, seed):
    """Told numbers, the same ones every time."""
    source = random.Random(seed)
    return [[source.randint(-most, most) for _ in range(n)] for _ in range(count)]


def some_steps(n, count, most, seed):
    """Rows of n steps that go different ways, the same ones every time."""
    source = random.Random(seed)
    found = []
    while len(found) < count:
        steps = [[source.randint(-most, most) for _ in range(n)] for _ in range(n)]
        if det(steps) != 0:
            found.append(steps)
    return found


def all_steps_of_two(most):
    """All rows of two steps with numbers up to most that go different ways."""
    numbers = range(-most, most + 1)
    return [[[a, b], [c, d]] for a, b, c, d in itertools.product(numbers, repeat=4) if a * d != b * c]


# rows whose answers are known for an edge: as short in many ways, all long with short points, in one line or plane
EDGES = [
    [[1, 0], [0, 1]],
    [[9, 8], [8, 7]],
    [[9, -9], [9, 9]],
    [[9, 0], [0, 9]],
    [[1, 0], [0, 9]],
    [[-9, -9], [-9, -8]],
    [[2, 1], [1, 2]],
    [[4, 0], [2, 3]],
    [[1, 0, 0], [0, 1, 0], [0, 0, 1]],
    [[1, 1, 0], [1, 0, 1], [0, 1, 1]],
    [[1, 1, 1], [1, -1, 1], [1, 1, -1]],
    [[1, 1, 1], [2, 0, 0], [0, 2, 0]],
    [[1, -1, 0], [0, 1, -1], [9, 9, 9]],
    [[1, 0, 0], [0, 0, 2], [9, 9, 9]],
    [[1, 0, 0], [0, 1, 0], [9, 9, 9]],
    [[9, 9, 8], [9, 8, 9], [8, 9, 9]],
    [[9, 8, 7], [8, 7, 9], [7, 9, 8]],
    [[9, 9, 9], [9, 9, 8], [9, 8, 9]],
    [[9, -9, 0], [0, 9, -9], [-9, 0, 8]],
    [[9, 0, 0], [0, 9, 0], [0, 0, 9]],
    [[9, 9, 9], [9, -9, 9], [9, 9, -9]],
    [[-9, -9, -9], [-9, 9, 9], [9, -9, 9]],
    [[2, 0, 0], [0, 2, 0], [1, 1, 9]],
    [[3, 0, 0], [1, 3, 0], [1, 1, 3]],
]
