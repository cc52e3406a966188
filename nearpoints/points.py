"""Points as lists of whole numbers: their length, their order, and what lies square to them."""


def dot(one, other):
    return sum([a * b for a, b in zip(one, other)])


def length(point):
    return dot(point, point)


def order(point):
    """The key to sort by: the shorter first, of as long ones the greater number where they first differ."""
    return [length(point)] + [-number for number in point]


def is_forward(point):
    for number in point:
        if number != 0:
            return number > 0
    return False


def together(steps, times):
    """The point that the steps lead to, each taken as often as times tells."""
    point = [0 for number in steps[0]]
    for step, often in zip(steps, times):
        point = [so_far + often * number for so_far, number in zip(point, step)]
    return point


def left_over(told, q, point):
    """What is left of the told numbers once the point is taken off q times."""
    return [whole - q * number for whole, number in zip(told, point)]


def cross(one, other):
    return [
        one[1] * other[2] - one[2] * other[1],
        one[2] * other[0] - one[0] * other[2],
        one[0] * other[1] - one[1] * other[0],
    ]


def normals(steps):
    """For each step a row square to all the others, whose product with the step itself is the determinant."""
    if len(steps) == 2:
        return [[steps[1][1], -steps[1][0]], [-steps[0][1], steps[0][0]]]
    return [cross(steps[1], steps[2]), cross(steps[2], steps[0]), cross(steps[0], steps[1])]


def determinant(steps):
    return dot(normals(steps)[0], steps[0])


def times_taken(steps, point):
    """How often each step is taken to lead to the point, or None if it isn't led to."""
    size = determinant(steps)
    products = [dot(normal, point) for normal in normals(steps)]
    if any([product % size != 0 for product in products]):
        return None
    return [product // size for product in products]


def lead_to_the_same(steps, others):
    """Whether the others lead to the same points: to these alone, and, their determinant being as great, to all."""
    if any([times_taken(steps, other) is None for other in others]):
        return False
    return abs(determinant(steps)) == abs(determinant(others))
