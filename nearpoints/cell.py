"""The points nearest to a place, and the walls of the cell of places that are nearest to the origin."""

from nearpoints.points import determinant, dot, is_forward, left_over, length, normals, order, together
from nearpoints.search import box, times_near


def point_by_rounding(steps, told, q):
    """A point near to the place: each step is taken as often as leads there with parts of steps, rounded."""
    part = q * determinant(steps)
    times = [(2 * dot(normal, told) + part) // (2 * part) for normal in normals(steps)]
    return together(steps, times)


def nearest_points(steps, told, q):
    """The nearest points, in order, to the place whose numbers are told times q.

    No nearest point is further off than any other point, so none is beyond the one that rounding gives.
    """
    limit = length(left_over(told, q, point_by_rounding(steps, told, q)))
    points = [together(steps, times) for times in times_near(steps, told, q, limit)]
    least = min([length(left_over(told, q, point)) for point in points])
    return sorted([point for point in points if length(left_over(told, q, point)) == least], key=order)


def shortest_beside(steps, start):
    """The shortest of the points that differ from the start by twice a point led to."""
    return [left_over(start, 2, point) for point in nearest_points(steps, start, 2)]


def wall_points(steps):
    """The walls, in order.

    Each point differs by twice a point led to from just one that takes every step once or not at all. With the opposite
    of each the shortest of those beside it come in pairs, and one pair alone is a wall; beside the origin, which is its
    own opposite, there is none.
    """
    found = []
    for times in box([[0, 1] for step in steps]):
        shortest = shortest_beside(steps, together(steps, times))
        if len(shortest) == 2:
            found.extend([point for point in shortest if is_forward(point)])
    return sorted(found, key=order)
