"""Rules 4 to 11 on a drawing.

Each fault_of_ function answers the rule and the least place at which it is broken, or None;
it may rely on the rules before its own being kept.
"""

from windowlight.turns import comes_behind, do_cross, is_on


def fault_of_points(drawing):
    """Rule 4: points within the frame, in order."""
    for k, point in enumerate(drawing.points):
        outside = point[0] > drawing.width or point[1] > drawing.height
        if outside or (k > 0 and not comes_behind(point, drawing.points[k - 1])):
            return (4, drawing.place_of_point(k))
    return None


def fault_of_lines(drawing):
    """Rule 5: lines from a lower to a higher number of a point, in order."""
    for k, line in enumerate(drawing.lines):
        wrong_ends = line[0] >= line[1] or line[1] >= len(drawing.points)
        if wrong_ends or (k > 0 and line <= drawing.lines[k - 1]):
            return (5, drawing.place_of_line(k))
    return None


def are_joined_in_a_row(numbers, lines):
    """Tell whether a line joins each of the numbers with the one behind it; lines is a dict by lines."""
    for k in range(1, len(numbers)):
        if (numbers[k - 1], numbers[k]) not in lines:
            return False
    return True


def fault_of_frame(drawing):
    """Rule 6: the frame's corners are points, its edges are lines."""
    width = drawing.width
    height = drawing.height
    for corner in ((0, 0), (width, 0), (0, height), (width, height)):
        if corner not in drawing.points:
            return (6, drawing.place_of_point(0))
    lines = {}
    for line in drawing.lines:
        lines[line] = True
    # By rule 4 the points of one edge stand in the order in which they lie on it.
    numbered = list(enumerate(drawing.points))
    bottom = [k for k, point in numbered if point[1] == 0]
    top = [k for k, point in numbered if point[1] == height]
    left = [k for k, point in numbered if point[0] == 0]
    right = [k for k, point in numbered if point[0] == width]
    for edge in (bottom, top, left, right):
        if not are_joined_in_a_row(edge, lines):
            return (6, drawing.place_of_point(0))
    return None


def has_point_on_it(drawing, line):
    """Tell whether a point other than its ends is on the line."""
    p = drawing.points[line[0]]
    q = drawing.points[line[1]]
    # By rule 4 a point that is on the line comes between its ends in the order of numbers, too.
    for k in range(line[0] + 1, line[1]):
        if is_on(p, q, drawing.points[k]):
            return True
    return False


def crosses_one_before(drawing, k):
    """Tell whether line k crosses a line before it."""
    line = drawing.lines[k]
    p = drawing.points[line[0]]
    q = drawing.points[line[1]]
    for j in range(k):
        earlier = drawing.lines[j]
        # A line that ends before this one begins, in the order of points, has no point in common with it.
        if earlier[1] > line[0] and do_cross(p, q, drawing.points[earlier[0]], drawing.points[earlier[1]]):
            return True
    return False


def fault_of_crossings(drawing):
    """Rule 7: no point on a line but its ends, no two lines that cross."""
    # Lines that lie one upon another need no look of their own: the first of them to be broken
    # has an end of another on it, as no two lines have the same two ends.
    for k, line in enumerate(drawing.lines):
        if has_point_on_it(drawing, line) or crosses_one_before(drawing, k):
            return (7, drawing.place_of_line(k))
    return None


def neighbours_of(drawing):
    """For each point the numbers of the points that a line joins with it."""
    neighbours = [[] for point in drawing.points]
    for line in drawing.lines:
        neighbours[line[0]].append(line[1])
        neighbours[line[1]].append(line[0])
    return neighbours


def reached_from(start, neighbours, left_out):
    """For each point whether a way along lines goes to it from the start, not through the one left out."""
    reached = [False for row in neighbours]
    reached[start] = True
    waiting = [start]
    while len(waiting) > 0:
        here = waiting.pop()
        for there in neighbours[here]:
            if there != left_out and not reached[there]:
                reached[there] = True
                waiting.append(there)
    return reached


def fault_of_ends(drawing, neighbours):
    """Rule 8: each point is the end of two lines or more."""
    for k, row in enumerate(neighbours):
        if len(row) < 2:
            return (8, drawing.place_of_point(k))
    return None


def fault_of_ways(drawing, neighbours):
    """Rule 9: from each point a way goes to point 0."""
    for k, reached in enumerate(reached_from(0, neighbours, None)):
        if not reached:
            return (9, drawing.place_of_point(k))
    return None


def fault_of_narrows(drawing, neighbours):
    """Rule 10: without any one point the others still have ways between them."""
    for k in range(len(neighbours)):
        start = 1 if k == 0 else 0
        if reached_from(start, neighbours, k).count(False) > 1:
            return (10, drawing.place_of_point(k))
    return None


def is_within_frame(drawing, mark):
    return 0 < mark[0] < drawing.width and 0 < mark[1] < drawing.height


def is_on_some_line(drawing, mark):
    for line in drawing.lines:
        if is_on(drawing.points[line[0]], drawing.points[line[1]], mark):
            return True
    return False


def fault_of_marks(drawing):
    """Rule 11: marks within the frame, on no line, in order."""
    for k, mark in enumerate(drawing.marks):
        misplaced = not is_within_frame(drawing, mark) or is_on_some_line(drawing, mark)
        if misplaced or (k > 0 and not comes_behind(mark, drawing.marks[k - 1])):
            return (11, drawing.place_of_mark(k))
    return None


def fault_of_drawing(drawing):
    """The first of rules 4 to 11 that is broken, and its place; None if none is."""
    fault = fault_of_points(drawing)
    if fault is None:
        fault = fault_of_lines(drawing)
    if fault is None:
        fault = fault_of_frame(drawing)
    if fault is None:
        fault = fault_of_crossings(drawing)
    if fault is not None:
        return fault
    neighbours = neighbours_of(drawing)
    fault = fault_of_ends(drawing, neighbours)
    if fault is None:
        fault = fault_of_ways(drawing, neighbours)
    if fault is None:
        fault = fault_of_narrows(drawing, neighbours)
    if fault is None:
        fault = fault_of_marks(drawing)
    return fault
