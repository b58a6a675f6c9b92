"""Points and turns, and what rests on them: on a line, crossings, areas, inside.

A point is a tuple that begins with x, y; a mark is such a tuple too.
"""


def turn(p, q, r):
    """Above 0 if the way p q r turns to the left, below 0 to the right, 0 if the three are in a row."""
    return (q[0] - p[0]) * (r[1] - q[1]) - (q[1] - p[1]) * (r[0] - q[0])


def comes_behind(q, p):
    """Tell whether q comes behind p: by y, of one y by x."""
    return (q[1], q[0]) > (p[1], p[0])


def is_in_box(p, q, r):
    """Tell whether r lies within the box of p and q, its edges included."""
    return min(p[0], q[0]) <= r[0] <= max(p[0], q[0]) and min(p[1], q[1]) <= r[1] <= max(p[1], q[1])


def is_on(p, q, r):
    """Tell whether r is on the line p q, its ends included."""
    return turn(p, q, r) == 0 and is_in_box(p, q, r)


def are_parted(p, q, r, s):
    """Tell whether r and s lie on two sides of the endless line through p and q, neither of them on it."""
    one = turn(p, q, r)
    other = turn(p, q, s)
    return (one < 0 and other > 0) or (one > 0 and other < 0)


def do_cross(p, q, r, s):
    """Tell whether the lines p q and r s meet in just one point that is an end of neither."""
    return are_parted(p, q, r, s) and are_parted(r, s, p, q)


def twice_area(corners):
    """Twice the area round which the corners go; below 0 if they go round it clockwise."""
    total = 0
    last = corners[-1]
    for corner in corners:
        total += last[0] * corner[1] - last[1] * corner[0]
        last = corner
    return total


def is_left_beside(p, q, r):
    """Tell whether the way from r straight to the right meets the line p q (r is not on it)."""
    # Of a line's two ends the lower one counts and the upper one does not,
    # so that a way through a corner is counted once where the outline goes on up or down.
    if p[1] <= r[1] < q[1]:
        return turn(p, q, r) > 0
    if q[1] <= r[1] < p[1]:
        return turn(q, p, r) > 0
    return False


def is_inside(corners, r):
    """Tell whether r, which is on no line, lies within the outline of these corners."""
    inside = False
    last = corners[-1]
    for corner in corners:
        if is_left_beside(last, corner, r):
            inside = not inside
        last = corner
    return inside
