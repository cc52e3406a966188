"""The search among the points that steps lead to: the shortest, how long in different ways, the reduced steps."""

from nearpoints.points import cross, determinant, dot, is_forward, left_over, length, normals, order, together


def box(choices):
    """All rows that have one number out of each of the choices."""
    rows = [[]]
    for numbers in choices:
        longer = []
        for row in rows:
            for number in numbers:
                longer.append(row + [number])
        rows = longer
    return rows


def longest_taken(steps, times):
    """The place of the longest step that is taken at all."""
    taken = [place for place, often in enumerate(times) if often != 0]
    return max(taken, key=lambda place: length(steps[place]))


def shortened(steps):
    """Steps that lead to the same points, none of which gets shorter by putting the others to it or taking them off.

    A step is only replaced by itself, forward or back, with others put to it, so the old one can be got back. The
    lengths together fall with every replacement, so the loop ends.
    """
    current = list(steps)
    rows = [times for times in box([[-1, 0, 1] for step in steps]) if any(times)]
    changed = True
    while changed:
        changed = False
        for times in rows:
            point = together(current, times)
            place = longest_taken(current, times)
            if length(point) < length(current[place]):
                current[place] = point
                changed = True
    return current


def numbers_near(whole, part, most):
    """All numbers which, times the part, are so near to the whole that the difference's square is at most this.

    The walk goes down and up from the quotient, where the difference only grows; so it may stop at the first too far.
    """
    lowest = whole // part + 1
    while (whole - part * (lowest - 1)) ** 2 <= most:
        lowest -= 1
    highest = whole // part
    while (whole - part * (highest + 1)) ** 2 <= most:
        highest += 1
    return list(range(lowest, highest + 1))


def times_near(steps, told, q, limit):
    """How often the steps are taken for each point which, taken off q times, leaves no more than this length.

    How often a step is taken, times the determinant, is the product of its normal and the point. So the product of the
    normal and what is left tells how often, and is at most as great as their lengths allow. No point is left out,
    whatever the steps; short steps only make the box small.
    """
    part = q * determinant(steps)
    choices = [numbers_near(dot(normal, told), part, length(normal) * limit) for normal in normals(steps)]
    return [times for times in box(choices) if length(left_over(told, q, together(steps, times))) <= limit]


def times_up_to(steps, limit):
    """How often the steps are taken for each forward point up to this length, in the order of the points."""
    origin = [0 for step in steps]
    found = [times for times in times_near(steps, origin, 1, limit) if is_forward(together(steps, times))]
    return sorted(found, key=lambda times: order(together(steps, times)))


def common_divisor(numbers):
    """The greatest number that divides all of these; 0 if they are all 0."""
    divisor = 0
    for number in numbers:
        rest = number
        while rest != 0:
            kept = rest
            rest = divisor % rest
            divisor = kept
    return abs(divisor)


def content(rows):
    """The common divisor of the rows' minors.

    It's 0 just if one row lies where the others lead, with parts too, and 1 just if the rows can be gone on with to
    as many as lead to all whole rows.
    """
    if len(rows) == len(rows[0]):
        return abs(determinant(rows))
    if len(rows) == 1:
        return common_divisor(rows[0])
    return common_divisor(cross(rows[0], rows[1]))


def first_fitting(rows, fits):
    """The first row, then each next one, whose content together with those so far fits."""
    chosen = []
    for row in rows:
        if len(chosen) < len(row) and fits(content(chosen + [row])):
            chosen.append(row)
    return chosen


def longest_length(steps):
    return max([length(step) for step in steps])


def shortest_points(steps):
    """The forward ones of the shortest points, in order."""
    limit = min([length(step) for step in steps])
    points = [together(steps, times) for times in times_up_to(steps, limit)]
    return [point for point in points if length(point) == length(points[0])]


def different_lengths(steps):
    """How long in different ways; the steps themselves go different ways, so none longer than them is needed."""
    rows = times_up_to(steps, longest_length(steps))
    chosen = first_fitting(rows, lambda divisor: divisor != 0)
    return [length(together(steps, times)) for times in chosen]


def reduced_steps(steps):
    """The reduced steps.

    With 2 or 3 steps these are as short as different ways can be, so none of them is longer than the steps at hand.
    """
    short = shortened(steps)
    rows = times_up_to(short, longest_length(short))
    chosen = first_fitting(rows, lambda divisor: divisor == 1)
    return [together(short, times) for times in chosen]
