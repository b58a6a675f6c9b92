"""The document's words once more, in another way than the program goes: fractions, unions, upright strips.

The panes are found by cutting the frame into upright strips at each point's x; what lies
between two lines of a strip is one piece, and pieces that touch through a gap are one pane.
"""

from fractions import Fraction
from itertools import combinations_with_replacement


class Unions:
    def __init__(self, things):
        self.above = {thing: thing for thing in things}

    def top(self, thing):
        while self.above[thing] != thing:
            thing = self.above[thing]
        return thing

    def join(self, one, other):
        self.above[self.top(one)] = self.top(other)

    def groups(self):
        return len({self.top(thing) for thing in self.above})


def share(p, q, r):
    """How far along p q the point r lies, from 0 to 1, if it is on that line; else None."""
    dx, dy = q[0] - p[0], q[1] - p[1]
    along = Fraction(dx * (r[0] - p[0]) + dy * (r[1] - p[1]), dx * dx + dy * dy)
    if not 0 <= along <= 1 or (p[0] + along * dx, p[1] + along * dy) != tuple(r):
        return None
    return along


def has_inner_point(points, line):
    ends = (points[line[0]], points[line[1]])
    return any(share(*ends, r) is not None for r in points if r not in ends)


def meet(points, one, other):
    """Tell whether two lines have a point in common that is an end of neither."""
    p, q, r, s = [points[k] for k in one + other]
    a, b = (q[0] - p[0], q[1] - p[1]), (s[0] - r[0], s[1] - r[1])
    slant = a[0] * b[1] - a[1] * b[0]
    if slant == 0:
        dot = a[0] * a[0] + a[1] * a[1]
        if a[0] * (r[1] - p[1]) != a[1] * (r[0] - p[0]):
            return False
        ends = sorted(Fraction(a[0] * (t[0] - p[0]) + a[1] * (t[1] - p[1]), dot) for t in (r, s))
        return max(ends[0], 0) < min(ends[1], 1)
    c = (r[0] - p[0], r[1] - p[1])
    on_one = Fraction(c[0] * b[1] - c[1] * b[0], slant)
    on_other = Fraction(c[0] * a[1] - c[1] * a[0], slant)
    return 0 < on_one < 1 and 0 < on_other < 1


def is_whole(how_many, lines):
    """Tell whether rules 8, 9, 10 hold."""
    return not (wrong_8(how_many, lines) or wrong_9(how_many, lines) or wrong_10(how_many, lines))


def wrong_8(how_many, lines):
    return [k for k in range(how_many) if sum(k in line for line in lines) < 2]


def wrong_9(how_many, lines):
    unions = Unions(range(how_many))
    for line in lines:
        unions.join(*line)
    return [k for k in range(how_many) if unions.top(k) != unions.top(0)]


def wrong_10(how_many, lines):
    found = []
    for k in range(how_many):
        unions = Unions(j for j in range(how_many) if j != k)
        for line in lines:
            if k not in line:
                unions.join(*line)
        if unions.groups() > 1:
            found.append(k)
    return found


def is_on_line(points, lines, r):
    return any(share(points[a], points[b], r) is not None for a, b in lines)


def height_at(p, q, x):
    return p[1] + Fraction((q[1] - p[1]) * (x - p[0]), q[0] - p[0])


class Panes:
    """The panes of points and lines that keep rules 4 to 10, by pieces (strip, piece of the strip)."""

    def __init__(self, points, lines):
        self.ends = [(points[a], points[b]) for a, b in lines]
        self.cuts = sorted({x for x, y in points})
        self.strips = [self.strip(a, b) for a, b in zip(self.cuts, self.cuts[1:])]
        pieces = [(k, j) for k, strip in enumerate(self.strips) for j in range(len(strip) - 1)]
        self.unions = Unions(pieces)
        for k in range(len(self.strips) - 1):
            self.join_strips(k)

    def strip(self, left, right):
        """The lines that go through a strip, each by its two heights, from below upwards."""
        through = [e for e in self.ends if min(e[0][0], e[1][0]) <= left and max(e[0][0], e[1][0]) >= right]
        heights = [(height_at(*e, left), height_at(*e, right)) for e in through]
        return sorted(heights, key=sum)

    def join_strips(self, k):
        x = self.cuts[k + 1]
        upright = [sorted((p[1], q[1])) for p, q in self.ends if p[0] == q[0] == x]
        for j, (low, high) in enumerate(zip(self.strips[k], self.strips[k][1:])):
            for i, (under, over) in enumerate(zip(self.strips[k + 1], self.strips[k + 1][1:])):
                bottom, top = max(low[1], under[0]), min(high[1], over[0])
                if self.is_gap(bottom, top, upright):
                    self.unions.join((k, j), (k + 1, i))

    def is_gap(self, bottom, top, upright):
        if bottom >= top:
            return False
        steps = {bottom, top} | {y for pair in upright for y in pair if bottom < y < top}
        steps = sorted(steps)
        middles = [Fraction(a + b) / 2 for a, b in zip(steps, steps[1:])]
        return any(not any(low < y < high for low, high in upright) for y in middles)

    def pane_at(self, spot):
        """The pane of a spot within the frame that is on no line."""
        x, y = spot[0], spot[1]
        k = max(j for j in range(len(self.strips)) if self.cuts[j] < x)
        part = Fraction(x - self.cuts[k], self.cuts[k + 1] - self.cuts[k])
        heights = [a + part * (b - a) for a, b in self.strips[k]]
        found = [j for j in range(len(heights) - 1) if heights[j] < y < heights[j + 1]]
        return self.unions.top((k, found[0]))

    def twice_areas(self):
        areas = {}
        for k, strip in enumerate(self.strips):
            for j, (low, high) in enumerate(zip(strip, strip[1:])):
                area = (self.cuts[k + 1] - self.cuts[k]) * (sum(high) - sum(low))
                name = self.unions.top((k, j))
                areas[name] = areas.get(name, 0) + area
        return areas


def number(data, place, size):
    return int.from_bytes(bytes(data[place:place + size]), "little")


def parts(data):
    how_many = [number(data, place, 2) for place in (12, 14, 16)]
    second = 20 + 8 * how_many[0]
    third = second + 4 * how_many[1]
    points = [(number(data, k, 4), number(data, k + 4, 4)) for k in range(20, second, 8)]
    lines = [(number(data, k, 2), number(data, k + 2, 2)) for k in range(second, third, 4)]
    marks = [tuple(number(data, k + j, n) for j, n in ((0, 4), (4, 4), (8, 2), (10, 2)))
             for k in range(third, len(data), 12)]
    return number(data, 4, 4), number(data, 8, 4), points, lines, marks


def judge_head(data):
    if len(data) < 20:
        return 1, len(data)
    if bytes(data[:4]) != b"GLA1":
        return 1, 0
    bounds = {4: (4, 16, 1048575), 8: (4, 16, 1048575), 12: (2, 4, 4096), 14: (2, 4, 8192), 16: (2, 1, 2048),
              18: (2, 0, 0)}
    wrong = [p for p, (n, low, high) in bounds.items() if not low <= number(data, p, n) <= high]
    if wrong:
        return 2, min(wrong)
    if len(data) != 20 + 8 * number(data, 12, 2) + 4 * number(data, 14, 2) + 12 * number(data, 16, 2):
        return 3, 20
    return None


def frame_is_wrong(width, height, points, lines):
    if not {(0, 0), (width, 0), (0, height), (width, height)} <= set(points):
        return True
    for axis, value in ((0, 0), (0, width), (1, 0), (1, height)):
        edge = sorted((p for p in points if p[axis] == value), key=lambda p: p[1 - axis])
        for one, other in zip(edge, edge[1:]):
            if (points.index(one), points.index(other)) not in lines:
                return True
    return False


def wrong_7(points, lines):
    return [k for k, line in enumerate(lines)
            if has_inner_point(points, line) or any(meet(points, line, l) for l in lines[:k])]


def wrong_11(width, height, points, lines, marks):
    found = []
    for k, (x, y, glass, painting) in enumerate(marks):
        behind = k == 0 or (marks[k - 1][1], marks[k - 1][0]) < (y, x)
        if not (0 < x < width and 0 < y < height and behind) or is_on_line(points, lines, (x, y)):
            found.append(k)
    return found


def judge_parts(data):
    """The rule and the number of what breaks it, of rules 4 to 11, each by the kind of its place."""
    width, height, points, lines, marks = parts(data)
    how_many = len(points)
    yield 4, "point", [k for k, (x, y) in enumerate(points) if x > width or y > height
                       or (k > 0 and (points[k - 1][1], points[k - 1][0]) >= (y, x))]
    yield 5, "line", [k for k, (a, b) in enumerate(lines) if a >= b or b >= how_many
                      or (k > 0 and lines[k - 1] >= (a, b))]
    yield 6, "point", [0] if frame_is_wrong(width, height, points, lines) else []
    yield 7, "line", wrong_7(points, lines)
    yield 8, "point", wrong_8(how_many, lines)
    yield 9, "point", wrong_9(how_many, lines)
    yield 10, "point", wrong_10(how_many, lines)
    yield 11, "mark", wrong_11(width, height, points, lines, marks)


def judge(data):
    """The rule that is broken and its place; None for a cartoon."""
    fault = judge_head(data)
    if fault is not None:
        return fault
    width, height, points, lines, marks = parts(data)
    lines_at = 20 + 8 * len(points)
    marks_at = lines_at + 4 * len(lines)
    places = {"point": (20, 8), "line": (lines_at, 4), "mark": (marks_at, 12)}
    for rule, kind, wrong in judge_parts(data):
        if wrong:
            return rule, places[kind][0] + places[kind][1] * min(wrong)
    panes = Panes(points, lines)
    held = [panes.pane_at(mark) for mark in marks]
    doubled = [k for k, pane in enumerate(held) if pane in held[:k]]
    if doubled:
        return 12, marks_at + 12 * doubled[0]
    if set(panes.twice_areas()) != set(held):
        return 13, len(data)
    return None


def through(one, other):
    return [round(Fraction(a * b, 65535)) for a, b in zip(one, other)]


def own_light(mark, glasses, paintings):
    if mark[3] > 0:
        return through(glasses[mark[2]], paintings[mark[3] - 1])
    return glasses[mark[2]]


def seen(mark, glasses, paintings, daylight):
    return through(daylight, own_light(mark, glasses, paintings))


def all_of(data, glasses, paintings, daylight):
    """The window's light; glasses and paintings as lists of lights, all of them as they should be."""
    width, height, points, lines, marks = parts(data)
    panes = Panes(points, lines)
    areas = panes.twice_areas()
    total = [Fraction(0)] * 32
    for mark in marks:
        area = areas[panes.pane_at(mark)]
        total = [t + area * n for t, n in zip(total, seen(mark, glasses, paintings, daylight))]
    return [int(t / (2 * width * height)) for t in total]


def apart(one, other):
    """The sum of squares, written out: a a - 2 a b + b b."""
    return sum(a * a for a in one) - 2 * sum(a * b for a, b in zip(one, other)) + sum(b * b for b in other)


def weigh(weights, own):
    """What the weights above 0 give, less what those below 0 take."""
    given = sum(band * weight for weight, band in zip(weights, own) if weight > 0)
    return given - sum(band * abs(weight) for weight, band in zip(weights, own) if weight < 0)


def near(glasses, wanted):
    """The nearest glass and how far apart; glasses as a list of lights, at least one."""
    least, k = min((apart(glass, wanted), k) for k, glass in enumerate(glasses))
    return [k, least]


def two(glasses, wanted):
    pairs = combinations_with_replacement(range(len(glasses)), 2)
    least, i, j = min((apart(through(glasses[i], glasses[j]), wanted), i, j) for i, j in pairs)
    return [i, j, least]


def beside(data):
    """The pairs of panes, the lower number first, that a step off the middle of some line leads to on either side."""
    width, height, points, lines, marks = parts(data)
    panes = Panes(points, lines)
    number = {panes.pane_at(mark): k for k, mark in enumerate(marks)}
    # So small a step that no other line lies between, not in the largest frame either.
    step = Fraction(1, 10 ** 15)
    found = set()
    for a, b in lines:
        p, q = points[a], points[b]
        middle = (Fraction(p[0] + q[0], 2), Fraction(p[1] + q[1], 2))
        off = (step * (p[1] - q[1]), step * (q[0] - p[0]))
        spots = [(middle[0] + side * off[0], middle[1] + side * off[1]) for side in (1, -1)]
        if all(0 < x < width and 0 < y < height for x, y in spots):
            found.add(tuple(sorted(number[panes.pane_at(spot)] for spot in spots)))
    return sorted(found)


def alike(bound, data, glasses, paintings):
    """The numbers that alike tells; glasses and paintings as lists of lights, all of them as they should be."""
    own = [own_light(mark, glasses, paintings) for mark in parts(data)[4]]
    return [k for i, j in beside(data) if apart(own[i], own[j]) < bound for k in (i, j)]
