"""Promise 2: what is nowhere above another light isn't so through a third. Promise 4: the window's light lies
between its panes', and is theirs if they are alike; it stays, however the window is turned, mirrored, magnified."""

import random
import unittest

from tests.cartoons import by_y, encode, light, row
from tests.drawn import drawings, drawn_lights
from windowlight import desk


def shop(seed):
    source = random.Random(seed)
    glasses = [source.randrange(65536) for k in range(96)]
    paintings = [source.randrange(65536) for k in range(64)]
    return glasses, paintings, [source.randrange(65536) for k in range(32)]


def moved(drawing, way):
    """The drawing's bytes with each point gone the way, a function of x, y, width, height."""
    width, height, points, lines, marks = drawing
    spots = [way(x, y, width, height) for x, y in points]
    order = sorted(spots, key=by_y)
    number = [order.index(spot) for spot in spots]
    joined = sorted(tuple(sorted((number[a], number[b]))) for a, b in lines)
    put = [way(x, y, width, height) + (glass, painting) for x, y, glass, painting in marks]
    return encode(max(x for x, y in spots), max(y for x, y in spots), order, joined, sorted(put, key=by_y))


WAYS = {
    "as it is": lambda x, y, w, h: (x, y),
    "turned a quarter": lambda x, y, w, h: (h - y, x),
    "turned a half": lambda x, y, w, h: (w - x, h - y),
    "turned three quarters": lambda x, y, w, h: (y, w - x),
    "mirrored": lambda x, y, w, h: (w - x, y),
    "mirrored upside down": lambda x, y, w, h: (x, h - y),
    "mirrored aslant": lambda x, y, w, h: (y, x),
    "magnified": lambda x, y, w, h: (3 * x, 3 * y),
    "magnified much": lambda x, y, w, h: (26000 * x, 26000 * y),
    "widened": lambda x, y, w, h: (700 * x, y),
}


def lower_and_higher(source):
    """Two lights, the first nowhere above the second."""
    one, other = drawn_lights(source, 1)[0], drawn_lights(source, 1)[0]
    return [list(map(choice, one, other)) for choice in (min, max)]


class TestPromise2(unittest.TestCase):
    def assert_nowhere_above(self, one, other):
        self.assertEqual((one[:2], other[:2]), ([0, 32], [0, 32]))
        self.assertTrue(all(a <= b for a, b in zip(one[2:], other[2:], strict=True)))

    def test_drawn_lights(self):
        for seed in range(300):
            source = random.Random(seed)
            lower, higher = lower_and_higher(source)
            for third in drawn_lights(source, 4) + [light(0), light(65535), lower, higher]:
                self.assert_nowhere_above(desk.through(lower, third), desk.through(higher, third))
                self.assert_nowhere_above(desk.through(third, lower), desk.through(third, higher))

    def test_each_number_and_the_next(self):
        for third in (0, 1, 2, 32767, 32768, 65534, 65535):
            for start in range(0, 65535, 31):
                numbers = [min(start + k, 65535) for k in range(33)]
                self.assert_nowhere_above(desk.through(numbers[:-1], light(third)),
                                          desk.through(numbers[1:], light(third)))

    def test_windows_by_a_lower_daylight(self):
        for k, drawing in enumerate(drawings()):
            glasses, paintings, daylight = shop(k)
            told = (encode(*drawing), glasses, paintings)
            lower, higher = lower_and_higher(random.Random(k))
            for i in range(len(drawing[4])):
                self.assert_nowhere_above(desk.pane(i, *told, lower), desk.pane(i, *told, higher))
            self.assert_nowhere_above(desk.all_of(*told, lower), desk.all_of(*told, higher))


class TestPromise4(unittest.TestCase):
    def test_there_are_many(self):
        self.assertGreater(len(drawings()), 30)
        self.assertGreater(max(len(drawing[4]) for drawing in drawings()), 10)

    def test_between_the_least_and_the_greatest(self):
        for k, drawing in enumerate(drawings()):
            told = (encode(*drawing), *shop(k))
            panes = [desk.pane(i, *told)[2:] for i in range(len(drawing[4]))]
            window = desk.all_of(*told)[2:]
            self.assertEqual(len(window), 32)
            for band, number in enumerate(window):
                seen = [pane[band] for pane in panes]
                self.assertTrue(min(seen) <= number <= max(seen))

    def test_panes_all_alike(self):
        for k, drawing in enumerate(drawings()):
            width, height, points, lines, marks = drawing
            glasses, paintings, daylight = shop(k)
            for number, painting in ((0, 0), (2, 0), (1, 2)):
                cartoon = encode(width, height, points, lines, [mark[:2] + (number, painting) for mark in marks])
                window = desk.all_of(cartoon, glasses, paintings, daylight)
                self.assertEqual(window, desk.pane(0, cartoon, glasses, paintings, daylight))
            self.assertEqual(desk.all_of(encode(*drawing), light(65535) * 3, light(65535) * 2, daylight),
                             row(*daylight))

    def test_turned_mirrored_magnified(self):
        for k, drawing in enumerate(drawings()):
            told = shop(k)
            window = desk.all_of(encode(*drawing), *told)
            self.assertEqual(window[:2], [0, 32])
            for name, way in WAYS.items():
                self.assertEqual(desk.all_of(moved(drawing, way), *told), window, name)


if __name__ == "__main__":
    unittest.main()
