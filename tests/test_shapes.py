"""Panes of many corners and kinds: their areas, as the window's light shows them, and whose marks are whose."""

import unittest

from tests.cartoons import by_y, draw, frame_way, grid, light, row, same_row
from windowlight import desk


def areas_of(width, height, ways, spots, between=()):
    """Twice the area of each spot's pane, found by giving light to that pane alone."""
    order = sorted(spots, key=by_y)
    marks = [(x, y, k, 0) for k, (x, y) in enumerate(order)]
    cartoon = draw(width, height, ways, marks, between)
    whole = 2 * width * height
    assert whole < 65535
    found = {}
    for k, spot in enumerate(order):
        glasses = light(0) * k + light(65535) + light(0) * (len(order) - k - 1)
        answer = desk.all_of(cartoon, glasses, [], light(65535))
        if answer[0] != 0:
            return answer
        # The least area whose share, rounded down, is what is seen.
        found[spot] = -(-answer[2] * whole // 65535)
        if answer != same_row(answer[2]):
            return answer
    return found


class TestAreas(unittest.TestCase):
    def assert_areas(self, told, width, height, ways, between=()):
        self.assertEqual(areas_of(width, height, ways, list(told), between), told)

    def test_one_pane(self):
        self.assert_areas({(5, 5): 2 * 16 * 20}, 16, 20, [])

    def test_one_pane_with_corners_at_which_it_goes_straight_on(self):
        between = [(3, 0), (9, 0), (16, 1), (16, 19), (15, 20), (1, 20), (0, 10)]
        self.assert_areas({(5, 5): 2 * 16 * 20}, 16, 20, [], between)

    def test_level_and_upright(self):
        ways = [[(0, 5), (8, 5), (12, 5), (20, 5)], [(8, 5), (8, 0)], [(12, 5), (12, 20)]]
        between = [(0, 5), (20, 5), (8, 0), (12, 20)]
        self.assert_areas({(1, 1): 80, (19, 1): 120, (1, 19): 360, (19, 19): 240}, 20, 20, ways, between)

    def test_leaning_any_way(self):
        hub = (7, 9)
        ends = [(0, 0), (7, 0), (20, 0), (20, 9), (20, 20), (7, 20), (0, 20), (0, 9)]
        ways = [[hub, end] for end in ends]
        told = {(5, 1): 63, (12, 1): 117, (19, 5): 117, (19, 12): 143, (12, 18): 143, (6, 19): 77, (1, 15): 77,
                (1, 5): 63}
        self.assertEqual(sum(told.values()), 800)
        self.assert_areas(told, 20, 20, ways, [(7, 0), (20, 9), (7, 20), (0, 9)])

    def test_a_hub_with_sixteen_lines(self):
        hub = (10, 10)
        steps = (0, 5, 10, 15)
        ends = [(x, 0) for x in steps] + [(20, y) for y in steps]
        ends += [(20 - x, 20) for x in steps] + [(0, 20 - y) for y in steps]
        spots = [(x + 2, 1) for x in steps] + [(19, y + 2) for y in steps]
        spots += [(18 - x, 19) for x in steps] + [(1, 18 - y) for y in steps]
        between = [end for end in ends if end not in ((0, 0), (20, 0), (20, 20), (0, 20))]
        self.assert_areas({spot: 50 for spot in spots}, 20, 20, [[hub, end] for end in ends], between)

    def test_lines_that_part_with_the_least_turn(self):
        # Round (0, 0) the two ways lie but a turn of 1 from one another.
        ways = [[(0, 0), (6, 1), (10, 6), (16, 16)], [(0, 0), (5, 1), (6, 10), (16, 16)]]
        # Twice the area by which each way leads beside the straight one: 6 * 6 - 1 * 10 + 10 * 16 - 6 * 16
        # to the right; 5 * 10 - 1 * 6 + 6 * 16 - 10 * 16 = -20, so 20 to the left.
        right, left = 90, 20
        self.assert_areas({(15, 1): 256 - right, (1, 15): 256 - left, (7, 7): right + left}, 16, 16, ways)
        mirrored = [[(16 - x, y) for x, y in way] for way in ways]
        told = {(1, 1): 256 - right, (15, 15): 256 - left, (9, 7): right + left}
        self.assert_areas(told, 16, 16, mirrored)

    def test_lines_that_part_with_the_least_turn_the_other_way(self):
        # Round (16, 0) the end with the higher number lies a turn of 1 to the left.
        ways = [[(16, 0), (3, 2), (0, 0)], [(16, 0), (10, 1), (0, 16)]]
        self.assert_areas({(5, 1): 32, (1, 5): 144, (15, 15): 336}, 16, 16, ways)

    def test_a_comb(self):
        # Teeth from below and from above, one pane on each side of the long line between them.
        zigzag = [(0, 2), (4, 28), (8, 2), (12, 28), (16, 2), (20, 28), (24, 2), (30, 28)]
        # A strip 2 high, three triangles 8 wide, and half a one, 6 wide, that leans up to the frame.
        under = 2 * 30 * 2 + 3 * 8 * 26 + 6 * 26
        told = {(29, 1): under, (1, 29): 2 * 30 * 30 - under}
        self.assert_areas(told, 30, 30, [zigzag], [(0, 2), (30, 28)])

    def test_a_spiral(self):
        # A way in and a wall beside it: pane A is the passage, pane B what winds with it.
        wall = [(0, 4), (28, 4), (28, 28), (4, 28), (4, 8), (24, 8), (24, 24), (8, 24), (8, 12), (20, 12), (20, 20),
                (12, 20), (12, 16), (16, 16), (16, 18), (14, 18), (14, 19), (18, 19), (18, 14), (10, 14), (10, 22),
                (22, 22), (22, 10), (6, 10), (6, 26), (26, 26), (26, 6), (0, 6), (0, 4)]
        inner = 0
        for (ax, ay), (bx, by) in zip(wall, wall[1:]):
            inner += ax * by - ay * bx
        self.assertGreater(inner, 0)
        self.assert_areas({(1, 5): inner, (1, 1): 1800 - inner}, 30, 30, [wall[:-1]], [(0, 4), (0, 6)])

    def test_a_star(self):
        star = [(15, 29), (12, 18), (1, 15), (12, 12), (15, 1), (18, 12), (29, 15), (18, 18), (15, 29)]
        ways = [star, [(0, 0), (12, 12)], [(30, 30), (18, 18)]]
        # A square of 6 by 6 with a triangle on each side, 6 wide and 11 high.
        inner = 2 * 36 + 4 * 66
        half = (1800 - inner) // 2
        self.assert_areas({(15, 15): inner, (29, 1): half, (1, 29): half}, 30, 30, ways)

    def test_corners_within_at_which_an_outline_goes_straight_on(self):
        diagonal = [(0, 0), (5, 5), (6, 6), (15, 15), (20, 20)]
        self.assert_areas({(19, 1): 400, (1, 19): 400}, 20, 20, [diagonal])
        branch = [(15, 15), (10, 20)]
        self.assert_areas({(19, 1): 400, (1, 15): 350, (15, 19): 50}, 20, 20, [diagonal, branch], [(10, 20)])

    def test_a_pane_that_touches_itself_nowhere_but_nearly(self):
        # A ring but for a gap of 1: joined with the frame by one line, the gap a line too.
        ring = [(10, 10), (20, 10), (20, 20), (10, 20), (10, 16), (12, 16), (12, 18), (18, 18), (18, 12), (12, 12),
                (12, 15), (10, 15), (10, 10)]
        area = 200 - 2 * 36 - 2 * 2
        ways = [ring, [(0, 0), (10, 10)], [(20, 20), (30, 30)], [(10, 15), (10, 16)]]
        pocket = 2 * 36 + 2 * 2
        rest = (1800 - 200) // 2
        self.assert_areas({(11, 11): area, (15, 15): pocket, (29, 1): rest, (1, 29): rest}, 30, 30, ways)


class TestWhoseMarks(unittest.TestCase):
    def assert_panes(self, width, height, ways, spots, numbers, between=()):
        """Each spot's pane, by numbers: spots of one number are in one pane."""
        by_number = {}
        for spot, number in zip(spots, numbers):
            by_number.setdefault(number, []).append(spot)
        for spot, number in zip(spots, numbers):
            others = [found[0] for other, found in by_number.items() if other != number]
            marks = [(x, y, 0, 0) for x, y in others + [spot]]
            cartoon = draw(width, height, ways, marks, between)
            self.assertEqual(desk.all_of(cartoon, light(9), [], light(65535)), same_row(9), spot)

    def test_close_to_a_line(self):
        # Spots at which turn is 1 or -1 along a line from end to end.
        line = [(0, 0), (1048575, 1048574)]
        spots = [(1, 1), (2, 1), (524288, 524287), (524287, 524287), (1048574, 1048573), (1048573, 1048573)]
        numbers = [1, 0, 0, 1, 0, 1]
        turns = [1048575 * y - 1048574 * x for x, y in spots]
        self.assertEqual([t > 0 for t in turns], [n == 1 for n in numbers])
        self.assertEqual(min(abs(t) for t in turns), 1)
        self.assert_panes(1048575, 1048575, [line], spots, numbers, [line[1]])

    def test_level_with_corners(self):
        # Spots as high as corners at which an outline turns back, goes on, and runs level.
        way = [(0, 10), (4, 10), (8, 4), (12, 10), (16, 16), (20, 10), (24, 10), (28, 2), (30, 10)]
        spots = [(1, 4), (26, 4), (28, 4), (29, 4), (6, 10), (10, 10), (14, 10), (18, 10), (25, 10), (27, 10), (1, 16),
                 (15, 16), (17, 16), (29, 16), (29, 2), (1, 2)]
        numbers = [0, 0, 1, 0, 1, 1, 0, 0, 1, 1, 1, 1, 1, 1, 0, 0]
        self.assert_panes(30, 30, [way], spots, numbers, [(0, 10), (30, 10)])

    def test_level_with_the_frames_points(self):
        between = [(0, 5), (0, 15), (20, 5), (20, 15), (5, 0), (15, 20)]
        ways = [[(0, 5), (20, 15)], [(5, 0), (20, 5)]]
        spots = [(1, 5), (19, 5), (6, 5), (1, 15), (19, 15), (15, 15), (5, 1), (5, 7), (5, 8), (19, 1), (15, 3),
                 (15, 4), (15, 19)]
        numbers = [0, 0, 0, 1, 1, 1, 0, 0, 1, 2, 2, 0, 1]
        self.assert_panes(20, 20, ways, spots, numbers, between)

    def test_pane_i_is_that_of_mark_i(self):
        # Marks are numbered by where they stand, not by where their panes' outlines begin.
        ways = [[(0, 10), (10, 10), (20, 10)], [(10, 0), (10, 10)]]
        between = [(0, 10), (20, 10), (10, 0)]
        marks = [(19, 1, 0, 0), (1, 9, 1, 0), (1, 11, 2, 0)]
        cartoon = draw(20, 20, ways, marks, between)
        glasses = light(11) + light(22) + light(33)
        self.assertEqual([desk.pane(i, cartoon, glasses, [], light(65535))[2] for i in range(3)], [11, 22, 33])
        # 11 / 4 + 22 / 4 + 33 / 2 = 24.75
        self.assertEqual(desk.all_of(cartoon, glasses, [], light(65535)), same_row(24))


class TestLarge(unittest.TestCase):
    def test_more_points_than_a_byte_can_tell(self):
        cartoon = grid(20, 20, 9)
        self.assertEqual(cartoon[12:14], [144, 1])
        self.assertEqual(desk.all_of(cartoon, light(9), [], light(65535)), same_row(9))
        self.assertEqual(desk.all_of(cartoon[:-1], light(9), [], light(65535)), [-5, 3, 20])

    def test_two_hundred_points(self):
        cartoon = grid(20, 10, 9, glasses=3, paintings=2)
        glasses = light(65535) + light(30000) + light(0)
        answer = desk.all_of(cartoon, glasses, light(65535) * 2, light(65535))
        # All panes have one area: every third one of the 342 has each glass.
        self.assertEqual(answer, same_row((65535 + 30000) // 3))
        self.assertEqual(desk.pane(341, cartoon, glasses, light(65535) * 2, light(65535)), same_row(0))
        self.assertEqual(desk.pane(342, cartoon, glasses, light(65535) * 2, light(65535)), [-2])

    def test_an_outline_of_two_hundred_corners(self):
        between = [(10 * k, 0) for k in range(1, 99)] + [(10 * k, 500) for k in range(1, 99)]
        self.assertEqual(len(frame_way(990, 500, between)), 201)
        cartoon = draw(990, 500, [], [(3, 3, 0, 0)], between)
        bands = [2000 * k for k in range(32)]
        self.assertEqual(desk.all_of(cartoon, bands, [], light(65535)), row(*bands))

    def test_a_point_with_very_many_lines(self):
        ends = [(1000, 10 * k) for k in range(1, 196)]
        ways = [[(0, 0), end] for end in ends]
        marks = [(999, 10 * k + 5, 0, 0) for k in range(196)] + [(1, 1999, 0, 0)]
        cartoon = draw(1000, 2000, ways, marks[:195] + marks[-1:], ends)
        self.assertEqual(cartoon[12], 199)
        self.assertEqual(desk.all_of(cartoon, light(9), [], light(65535)), same_row(9))


if __name__ == "__main__":
    unittest.main()
