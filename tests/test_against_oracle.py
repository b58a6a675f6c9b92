"""Many cartoons, and bytes that are nearly cartoons: the program against the oracle."""

import random
import unittest

from tests import oracle
from tests.cartoons import by_y, encode, random_drawing, row
from windowlight import desk

MOST = 18446744073709551615


def change_byte(source, drawing):
    data = encode(*drawing)
    data[source.randrange(len(data))] ^= 1 << source.randrange(8)
    return data


def cut_short(source, drawing):
    data = encode(*drawing)
    return data[:source.randrange(len(data))] if source.randrange(2) else data + [0] * source.randrange(1, 13)


def drop(source, rows):
    k = source.randrange(len(rows))
    return rows[:k] + rows[k + 1:]


def drop_line(source, drawing):
    width, height, points, lines, marks = drawing
    return encode(width, height, points, drop(source, lines), marks)


def drop_mark(source, drawing):
    width, height, points, lines, marks = drawing
    return encode(width, height, points, lines, drop(source, marks))


def add_lines(source, drawing):
    width, height, points, lines, marks = drawing
    added = {tuple(sorted(source.sample(range(len(points)), 2))) for k in range(source.randrange(1, 4))}
    return encode(width, height, points, sorted(added | set(lines)), marks)


def move_point(source, drawing):
    """A point goes elsewhere; its lines go with it."""
    width, height, points, lines, marks = drawing
    spots = list(points)
    spots[source.randrange(len(points))] = (source.randrange(width + 1), source.randrange(height + 1))
    if len(set(spots)) < len(spots):
        return encode(width, height, spots, lines, marks)
    order = sorted(spots, key=by_y)
    number = [order.index(spot) for spot in spots]
    joined = sorted(tuple(sorted((number[a], number[b]))) for a, b in lines)
    return encode(width, height, order, joined, marks)


def add_round(drawing, spots):
    """A way from spot to spot and back to the first."""
    width, height, points, lines, marks = drawing
    every = sorted(set(points) | set(spots), key=by_y)
    number = {spot: k for k, spot in enumerate(every)}
    joined = {(number[points[a]], number[points[b]]) for a, b in lines}
    for one, other in zip(spots, spots[1:] + spots[:1]):
        if one != other:
            joined.add(tuple(sorted((number[one], number[other]))))
    return encode(width, height, every, sorted(joined), marks)


def add_shape(source, drawing):
    """A triangle or a lone line anywhere, joined with the drawing or not."""
    width, height, points = drawing[:3]
    spots = [(source.randrange(width + 1), source.randrange(height + 1)) for k in range(source.choice([1, 2, 3, 3]))]
    return add_round(drawing, spots + source.sample(points, source.randrange(3)))


def add_island(source, drawing):
    """A triangle so small that it often meets nothing."""
    x, y = source.randrange(1, drawing[0] - 1), source.randrange(1, drawing[1] - 1)
    return add_round(drawing, [(x, y), (x + 1, y), (x, y + 1)])


def move_mark(source, drawing):
    width, height, points, lines, marks = drawing
    put = list(marks)
    put[source.randrange(len(put))] = (source.randrange(width + 1), source.randrange(height + 1), 0, 0)
    return encode(width, height, points, lines, sorted(put, key=by_y))


def add_mark(source, drawing):
    width, height, points, lines, marks = drawing
    put = marks + [(source.randrange(width + 1), source.randrange(height + 1), 0, 0)]
    return encode(width, height, points, lines, sorted(put, key=by_y))


def swap(source, drawing):
    parts = list(drawing)
    which = source.choice([2, 3, 4])
    rows = list(parts[which])
    k = source.randrange(len(rows))
    rows[k], rows[k - 1] = rows[k - 1], rows[k]
    parts[which] = rows
    return encode(*parts)


def resize(source, drawing):
    width, height, points, lines, marks = drawing
    return encode(width + source.randrange(-2, 3), height + source.randrange(-2, 3), points, lines, marks)


CHANGES = [change_byte, cut_short, drop_line, drop_mark, add_lines, move_point, add_shape, add_island, move_mark,
           add_mark, swap, resize]


def lights(source, how_many):
    return [[source.randrange(65536) for band in range(32)] for k in range(how_many)]


def compare(case, data, source):
    """Hold the program's answers on bytes against the oracle's; tell the rule that was broken, or None."""
    glasses, paintings, daylight = lights(source, 3), lights(source, 2), lights(source, 1)[0]
    told = (data, sum(glasses, []), sum(paintings, []), daylight)
    fault = oracle.judge(data)
    if fault is not None:
        case.assertEqual(desk.all_of(*told), [-5, *fault])
        case.assertEqual(desk.pane(0, *told), [-5, *fault])
        case.assertEqual(desk.alike(MOST, *told[:3]), [-5, *fault])
        return fault[0]
    marks = oracle.parts(data)[4]
    without = [k for k, mark in enumerate(marks) if mark[2] > 2 or mark[3] > 2]
    if without:
        case.assertEqual(desk.all_of(*told), [-3, without[0]])
        case.assertEqual(desk.alike(MOST, *told[:3]), [-3, without[0]])
        return None
    case.assertEqual(desk.all_of(*told), row(*oracle.all_of(data, glasses, paintings, daylight)))
    for i, mark in enumerate(marks):
        case.assertEqual(desk.pane(i, *told), row(*oracle.seen(mark, glasses, paintings, daylight)))
    for bound in (1, 32 * 20000 * 20000, MOST):
        case.assertEqual(desk.alike(bound, *told[:3]), row(*oracle.alike(bound, data, glasses, paintings)))
    return None


class TestAgainstOracle(unittest.TestCase):
    def check(self, seeds, changes):
        found = {}
        for seed in seeds:
            source = random.Random(seed)
            drawing = random_drawing(seed)
            rules = [compare(self, encode(*drawing), source)]
            for change in changes:
                with self.subTest(seed=seed, change=change.__name__):
                    rules.append(compare(self, change(source, drawing), source))
            for rule in rules:
                found[rule] = found.get(rule, 0) + 1
        return found

    def test_drawings_and_changed_ones(self):
        found = self.check(range(1000, 1080), CHANGES)
        self.assertEqual(set(found), {None, *range(1, 14)})


if __name__ == "__main__":
    unittest.main()
