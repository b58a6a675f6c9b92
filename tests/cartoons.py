"""Cartoons for the tests: told by points, lines and marks, and turned into bytes."""

import random

from tests import oracle

RUN_POINTS = [(0, 0), (30, 0), (10, 10), (0, 20), (30, 20)]
RUN_LINES = [(0, 1), (0, 2), (0, 3), (1, 2), (1, 4), (2, 3), (3, 4)]
RUN_MARKS = [(15, 2, 0, 0), (2, 10, 1, 0), (20, 15, 1, 1)]


def low_first(number, size):
    return list(number.to_bytes(size, "little"))


def encode(width, height, points, lines, marks, sign=b"GLA1", zero=0):
    """The bytes of what is told, as it stands, right or wrong."""
    data = list(sign) + low_first(width, 4) + low_first(height, 4)
    for number in (len(points), len(lines), len(marks), zero):
        data += low_first(number, 2)
    for x, y in points:
        data += low_first(x, 4) + low_first(y, 4)
    for one, other in lines:
        data += low_first(one, 2) + low_first(other, 2)
    for x, y, glass, painting in marks:
        data += low_first(x, 4) + low_first(y, 4) + low_first(glass, 2) + low_first(painting, 2)
    return data


def run_cartoon(width=30, height=20, points=RUN_POINTS, lines=RUN_LINES, marks=RUN_MARKS):
    """The document's cartoon, or it with some of its parts told otherwise."""
    return encode(width, height, points, lines, marks)


def by_y(point):
    return (point[1], point[0])


def parts_of(ways, marks):
    """Points, lines and marks, numbered and in order; a way is a row of points, each joined with the next."""
    points = sorted({point for way in ways for point in way}, key=by_y)
    number = {point: k for k, point in enumerate(points)}
    lines = set()
    for way in ways:
        for one, other in zip(way, way[1:]):
            lines.add(tuple(sorted((number[one], number[other]))))
    return points, sorted(lines), sorted(marks, key=by_y)


def frame_way(width, height, between=()):
    """The way round the frame, with points between on its edges."""
    corners = [(0, 0), (width, 0), (width, height), (0, height)]
    bottom = sorted(p for p in between if p[1] == 0)
    right = sorted((p for p in between if p[0] == width), key=by_y)
    top = sorted((p for p in between if p[1] == height), reverse=True)
    left = sorted((p for p in between if p[0] == 0), key=by_y, reverse=True)
    return [corners[0], *bottom, corners[1], *right, corners[2], *top, corners[3], *left, corners[0]]


def draw(width, height, ways, marks, between=()):
    """The bytes of a framed drawing; marks are (x, y, glass, painting)."""
    points, lines, ordered = parts_of([frame_way(width, height, between)] + list(ways), marks)
    return encode(width, height, points, lines, ordered)


def one_pane(glass=0, painting=0, width=16, height=16):
    return draw(width, height, [], [(5, 5, glass, painting)])


def light(number):
    return [number] * 32


def row(*numbers):
    """The answer that tells a row."""
    return [0, len(numbers), *numbers]


def same_row(number):
    return row(*light(number))


def grid(columns, rows, step, glasses=1, paintings=0):
    """A grid of points, each square cut in two by a line; a mark in each pane."""
    width = step * (columns - 1)
    height = step * (rows - 1)
    points = [(step * c, step * r) for r in range(rows) for c in range(columns)]
    lines = []
    marks = []
    for r in range(rows):
        for c in range(columns):
            k = r * columns + c
            if c + 1 < columns:
                lines.append((k, k + 1))
            if r + 1 < rows:
                lines.append((k, k + columns))
            if c + 1 < columns and r + 1 < rows:
                lines.append((k, k + columns + 1))
                marks.append((step * c + step - 1, step * r + 1))
                marks.append((step * c + 1, step * r + step - 1))
    marks = sorted(marks, key=by_y)
    marks = [(x, y, k % glasses, k % (paintings + 1)) for k, (x, y) in enumerate(marks)]
    return encode(width, height, points, sorted(lines), marks)


def random_points(source, width, height, how_many):
    points = {(0, 0), (width, 0), (0, height), (width, height)}
    while len(points) < how_many:
        x = source.randrange(width + 1)
        y = source.randrange(height + 1)
        points.add(source.choice([(x, y), (x, y), (x, y), (0, y), (x, height), (x // 2 * 2, y // 4 * 4)]))
    return sorted(points, key=by_y)


def frame_lines(width, height, points):
    between = [p for p in points if p[0] in (0, width) or p[1] in (0, height)]
    corners = ((0, 0), (width, 0), (0, height), (width, height))
    way = frame_way(width, height, [p for p in between if p not in corners])
    number = {point: k for k, point in enumerate(points)}
    return sorted({tuple(sorted((number[a], number[b]))) for a, b in zip(way, way[1:])})


def random_lines(source, width, height, points):
    """As many lines as can be drawn, then some taken away again, as long as rules 8 to 10 hold."""
    framed = frame_lines(width, height, points)
    lines = list(framed)
    others = [(a, b) for b in range(len(points)) for a in range(b) if (a, b) not in framed]
    source.shuffle(others)
    for line in others:
        if not oracle.has_inner_point(points, line) and not any(oracle.meet(points, line, l) for l in lines):
            lines.append(line)
    inner = [line for line in lines if line not in framed]
    source.shuffle(inner)
    for line in inner[:source.randrange(len(inner) + 1)]:
        fewer = [l for l in lines if l != line]
        if oracle.is_whole(len(points), fewer):
            lines = fewer
    return sorted(lines)


def random_drawing(seed):
    """Width, height, points, lines, marks that keep all rules, or break rule 13 alone (a pane too narrow)."""
    source = random.Random(seed)
    width = source.randrange(16, 40)
    height = source.randrange(16, 40)
    points = random_points(source, width, height, source.randrange(4, 18))
    lines = random_lines(source, width, height, points)
    panes = oracle.Panes(points, lines)
    spots = {}
    for y in range(1, height):
        for x in range(1, width):
            if not oracle.is_on_line(points, lines, (x, y)):
                spots.setdefault(panes.pane_at((x, y)), []).append((x, y))
    chosen = [source.choice(found) for found in spots.values()]
    marks = [(x, y, source.randrange(3), source.randrange(3)) for x, y in sorted(chosen, key=by_y)]
    return width, height, points, lines, marks
