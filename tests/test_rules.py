"""Each rule by which bytes are judged, broken by itself, and the order in which rules and places are told."""

import unittest

from tests.cartoons import (RUN_LINES, RUN_MARKS, RUN_POINTS, draw, encode, frame_way, light, low_first, one_pane,
                            parts_of, run_cartoon)
from windowlight import desk

LINES_AT = 20 + 8 * 5
MARKS_AT = LINES_AT + 4 * 7
FRAME = [(0, 0), (16, 0), (0, 16), (16, 16)]
FRAME_LINES = [(0, 1), (0, 2), (1, 3), (2, 3)]


def changed(data, place, *numbers):
    data = list(data)
    data[place:place + len(numbers)] = numbers
    return data


class Judged(unittest.TestCase):
    def assert_broken(self, data, rule, place):
        glasses = light(65535) * 3
        paintings = light(65535)
        self.assertEqual(desk.all_of(data, glasses, paintings, light(65535)), [-5, rule, place])
        self.assertEqual(desk.pane(0, data, glasses, paintings, light(65535)), [-5, rule, place])

    def assert_cartoon(self, data):
        answer = desk.all_of(data, light(65535) * 3, light(65535), light(65535))
        self.assertEqual(answer, [0, 32] + light(65535))


class TestHead(Judged):
    def test_rule_1_too_few_bytes(self):
        for length in (0, 1, 4, 19):
            self.assert_broken(run_cartoon()[:length], 1, length)

    def test_rule_1_too_few_bytes_of_any_kind(self):
        self.assert_broken([0] * 19, 1, 19)
        self.assert_broken([255], 1, 1)

    def test_rule_1_sign(self):
        for place in range(4):
            self.assert_broken(changed(run_cartoon(), place, 48), 1, 0)
        self.assert_broken([0] * 20, 1, 0)

    def test_rule_2_below_and_above(self):
        ranges = {4: (4, 16, 1048575), 8: (4, 16, 1048575), 12: (2, 4, 4096), 14: (2, 4, 8192), 16: (2, 1, 2048)}
        head = run_cartoon()[:20]
        for place, (size, least, greatest) in ranges.items():
            for number in (0, least - 1, greatest + 1, 256 ** size - 1):
                self.assert_broken(changed(head, place, *low_first(number, size)), 2, place)
            for number in (least, greatest):
                # What lies within the range is refused for what comes behind it alone.
                self.assert_broken(changed(head, place, *low_first(number, size)), 3, 20)

    def test_rule_2_ends_of_ranges_in_cartoons(self):
        self.assert_cartoon(one_pane(width=16, height=16))
        self.assert_cartoon(one_pane(width=1048575, height=16))
        self.assert_cartoon(one_pane(width=16, height=1048575))
        self.assert_cartoon(one_pane(width=1048575, height=1048575))

    def test_rule_2_one_less_or_more_in_cartoons(self):
        for size in (15, 1048576):
            self.assert_broken(one_pane(width=size), 2, 4)
            self.assert_broken(one_pane(height=size), 2, 8)
        self.assert_broken(encode(16, 16, FRAME[:3], FRAME_LINES, [(5, 5, 0, 0)]), 2, 12)
        self.assert_broken(encode(16, 16, FRAME, FRAME_LINES[:3], [(5, 5, 0, 0)]), 2, 14)
        self.assert_broken(encode(16, 16, FRAME, FRAME_LINES, []), 2, 16)

    def test_rule_2_bytes_that_must_be_0(self):
        self.assert_broken(changed(run_cartoon(), 18, 1), 2, 18)
        self.assert_broken(changed(run_cartoon(), 19, 1), 2, 18)
        self.assert_broken(changed(run_cartoon(), 18, 255, 255), 2, 18)

    def test_rule_2_numbers_have_their_lowest_byte_first(self):
        self.assert_broken(changed(run_cartoon(), 4, 0, 0, 0, 30), 2, 4)
        self.assert_broken(changed(run_cartoon(), 12, 0, 5), 3, 20)

    def test_rule_2_the_highest_bytes_count(self):
        self.assert_broken(changed(run_cartoon(), 7, 1), 2, 4)
        self.assert_broken(changed(run_cartoon(), 11, 1), 2, 8)
        self.assert_broken(changed(run_cartoon(), 13, 128), 2, 12)
        self.assert_broken(changed(run_cartoon(), 15, 128), 2, 14)
        self.assert_broken(changed(run_cartoon(), 17, 128), 2, 16)

    def test_rule_3_bytes_too_few_or_too_many(self):
        whole = run_cartoon()
        for data in (whole[:-1], whole + [0], whole[:20], whole + [0] * 12, whole[:-12]):
            self.assert_broken(data, 3, 20)


class TestPointsAndLines(Judged):
    def with_point(self, k, x, y):
        points = list(RUN_POINTS)
        points[k] = (x, y)
        return run_cartoon(points=points)

    def with_line(self, k, one, other):
        lines = list(RUN_LINES)
        lines[k] = (one, other)
        return run_cartoon(lines=lines)

    def test_rule_4_out_of_the_frame(self):
        self.assert_broken(self.with_point(1, 31, 0), 4, 28)
        self.assert_broken(self.with_point(2, 31, 10), 4, 36)
        self.assert_broken(self.with_point(2, 4294967295, 10), 4, 36)
        self.assert_broken(self.with_point(4, 30, 21), 4, 52)
        self.assert_broken(self.with_point(0, 31, 0), 4, 20)

    def test_rule_4_the_highest_bytes_count(self):
        for k in range(1, 5):
            x, y = RUN_POINTS[k]
            for more in (256, 65536, 16777216):
                self.assert_broken(self.with_point(k, x + more, y), 4, 20 + 8 * k)
                self.assert_broken(self.with_point(k, x, y + more), 4, 20 + 8 * k)

    def test_rule_4_order(self):
        self.assert_broken(self.with_point(1, 0, 0), 4, 28)
        self.assert_broken(self.with_point(2, 30, 0), 4, 36)
        self.assert_broken(self.with_point(2, 29, 0), 4, 36)
        self.assert_broken(self.with_point(1, 30, 11), 4, 36)
        self.assert_broken(self.with_point(3, 10, 10), 4, 44)
        self.assert_broken(self.with_point(3, 9, 10), 4, 44)
        self.assert_broken(self.with_point(3, 30, 9), 4, 44)

    def test_rule_4_order_is_by_y_first(self):
        # By x first this would be in order.
        self.assert_broken(encode(16, 16, [(0, 0), (0, 16), (16, 0), (16, 16)], FRAME_LINES, [(5, 5, 0, 0)]), 4, 36)

    def test_rule_5_first_not_below_second(self):
        self.assert_broken(self.with_line(2, 3, 3), 5, LINES_AT + 8)
        self.assert_broken(self.with_line(2, 1, 0), 5, LINES_AT + 8)
        self.assert_broken(self.with_line(0, 0, 0), 5, LINES_AT)

    def test_rule_5_second_not_below_how_many(self):
        self.assert_broken(self.with_line(6, 3, 5), 5, LINES_AT + 24)
        self.assert_broken(self.with_line(2, 0, 65535), 5, LINES_AT + 8)

    def test_rule_5_order(self):
        self.assert_broken(self.with_line(1, 0, 1), 5, LINES_AT + 4)
        self.assert_broken(self.with_line(2, 0, 2), 5, LINES_AT + 8)
        self.assert_broken(self.with_line(2, 0, 1), 5, LINES_AT + 8)
        self.assert_broken(self.with_line(4, 0, 4), 5, LINES_AT + 16)
        self.assert_broken(self.with_line(0, 0, 3), 5, LINES_AT + 4)


class TestFrame(Judged):
    def test_rule_6_a_corner_that_is_missing(self):
        for missing in range(4):
            x, y = FRAME[missing]
            points = list(FRAME)
            points[missing] = (abs(x - 1), y)
            self.assert_broken(encode(16, 16, points, FRAME_LINES, [(5, 5, 0, 0)]), 6, 20)
        for missing in range(4):
            x, y = FRAME[missing]
            points = [p for p in FRAME if p != (x, y)] + [(x, abs(y - 1))]
            points = sorted(points, key=lambda p: (p[1], p[0]))
            self.assert_broken(encode(16, 16, points, FRAME_LINES, [(5, 5, 0, 0)]), 6, 20)

    def test_rule_6_an_edge_that_no_line_joins(self):
        lines = [(0, 1), (0, 2), (1, 2), (1, 3), (2, 3)]
        marks = [(3, 3, 0, 0), (12, 12, 0, 0)]
        self.assert_cartoon(encode(16, 16, FRAME, lines, marks))
        for k in (0, 1, 3, 4):
            fewer = lines[:k] + lines[k + 1:]
            self.assert_broken(encode(16, 16, FRAME, fewer, marks), 6, 20)

    def test_rule_6_points_on_an_edge(self):
        for between in ((7, 0), (16, 7), (7, 16), (0, 7)):
            whole = frame_way(16, 16, [between])
            points, lines, marks = parts_of([whole], [(5, 5, 0, 0)])
            self.assert_cartoon(encode(16, 16, points, lines, marks))
            number = points.index(between)
            for line in [line for line in lines if number in line]:
                # A line from it to elsewhere stands in for the one that is taken away.
                far = [k for k in range(5) if (min(k, number), max(k, number)) not in lines and k != number]
                others = sorted(set(lines) - {line} | {(min(far[0], number), max(far[0], number))})
                self.assert_broken(encode(16, 16, points, others, marks), 6, 20)

    def test_rule_6_a_line_past_a_point_of_the_edge_joins_it_not(self):
        points = [(0, 0), (8, 0), (16, 0), (0, 16), (16, 16)]
        lines = [(0, 2), (0, 3), (1, 3), (1, 4), (2, 4), (3, 4)]
        self.assert_broken(encode(16, 16, points, lines, [(8, 8, 0, 0)]), 6, 20)


class TestCrossings(Judged):
    def test_rule_7_a_point_on_a_line(self):
        # 0 (0, 0), 1 (16, 0), 2 (8, 8), 3 (0, 16), 4 (16, 16): 1 3 goes through 2.
        points = [(0, 0), (16, 0), (8, 8), (0, 16), (16, 16)]
        lines = [(0, 1), (0, 2), (0, 3), (1, 3), (1, 4), (2, 4), (3, 4)]
        self.assert_broken(encode(16, 16, points, lines, [(8, 4, 0, 0)]), 7, 60 + 12)

    def test_rule_7_a_point_on_a_line_of_an_edge(self):
        points = [(0, 0), (8, 0), (16, 0), (0, 16), (16, 16)]
        lines = [(0, 1), (0, 2), (0, 3), (1, 2), (2, 4), (3, 4)]
        self.assert_broken(encode(16, 16, points, lines, [(8, 8, 0, 0)]), 7, 60 + 4)

    def test_rule_7_level_and_upright_lines_with_a_point_on_them(self):
        level = [[(0, 8), (16, 8)], [(8, 8), (8, 16)], [(4, 16), (8, 8)]]
        between = [(0, 8), (16, 8), (8, 16), (4, 16)]
        data = draw(16, 16, level, [(8, 4, 0, 0)], between)
        # 0 (0, 0), 1 (16, 0), 2 (0, 8), 3 (8, 8), 4 (16, 8), ..: lines 0 1, 0 2, 1 4, 2 4, ..
        self.assert_broken(data, 7, 20 + 8 * 9 + 4 * 3)
        upright = [[(8, 0), (8, 16)], [(8, 8), (16, 8)], [(8, 8), (16, 4)]]
        data = draw(16, 16, upright, [(4, 8, 0, 0)], [(8, 0), (8, 16), (16, 8), (16, 4)])
        # 0 (0, 0), 1 (8, 0), 2 (16, 0), 3 (16, 4), 4 (8, 8), 5 (16, 8), 6 (0, 16), ..: 0 1, 0 6, 1 2, 1 7, ..
        self.assert_broken(data, 7, 20 + 8 * 9 + 4 * 3)

    def test_rule_7_two_lines_that_cross(self):
        lines = [(0, 1), (0, 2), (0, 3), (1, 2), (1, 3), (2, 3)]
        self.assert_broken(encode(16, 16, FRAME, lines, [(8, 4, 0, 0)]), 7, 20 + 8 * 4 + 4 * 3)

    def test_rule_7_lines_that_barely_cross(self):
        # 1 3 passes just above point 2, and so crosses 2 4 close to its end.
        points = [(0, 0), (1048575, 0), (524287, 524287), (0, 1048575), (1048575, 1048575)]
        lines = [(0, 1), (0, 2), (0, 3), (1, 3), (1, 4), (2, 4), (3, 4)]
        data = encode(1048575, 1048575, points, lines, [(9, 5, 0, 0)])
        self.assert_broken(data, 7, 60 + 4 * 5)
        points[2] = (524288, 524288)
        data = encode(1048575, 1048575, points, lines, [(9, 5, 0, 0)])
        self.assert_broken(data, 7, 60 + 4 * 3)

    def test_rule_7_lines_that_barely_miss(self):
        points = [(0, 0), (1048575, 0), (524287, 524287), (0, 1048575), (1048575, 1048575)]
        lines = [(0, 1), (0, 2), (0, 3), (1, 2), (1, 3), (1, 4), (2, 3), (3, 4)]
        # The pane 1 2 3 between 1 2, 2 3 and 1 3 has no whole point in it.
        marks = [(9, 5, 0, 0), (5, 9, 0, 0), (1048570, 1048570, 0, 0)]
        data = encode(1048575, 1048575, points, lines, marks)
        self.assert_broken(data, 13, len(data))

    def test_rule_7_lines_that_cross_with_the_least_turns(self):
        # Each end is but a turn of 1 or -1 beside the other line.
        one, other = ((0, 0), (7, 2)), ((3, 1), (4, 1))
        for way in (lambda x, y: (x, y), lambda x, y: (16 - x, y), lambda x, y: (y, x), lambda x, y: (16 - y, x),
                    lambda x, y: (x, 16 - y), lambda x, y: (16 - x, 16 - y), lambda x, y: (y, 16 - x),
                    lambda x, y: (16 - y, 16 - x)):
            ways = [[way(*p) for p in one], [way(*p) for p in other]]
            points, lines, marks = parts_of([frame_way(16, 16)] + ways, [(9, 9, 0, 0)])
            numbers = [tuple(sorted(points.index(p) for p in pair)) for pair in ways]
            later = max(lines.index(line) for line in numbers)
            self.assert_broken(encode(16, 16, points, lines, marks), 7, 20 + 8 * len(points) + 4 * later)

    def test_rule_7_lines_one_upon_another(self):
        # 0 2, 0 3 and 2 3 lie in a row: it is 0 3 that has a point on it, though 2 3 comes behind it.
        points = [(0, 0), (16, 0), (4, 4), (8, 8), (0, 16), (16, 16)]
        lines = [(0, 1), (0, 2), (0, 3), (0, 4), (1, 5), (2, 3), (3, 5), (4, 5)]
        self.assert_broken(encode(16, 16, points, lines, [(8, 4, 0, 0)]), 7, 68 + 8)

    def test_rule_7_lines_that_lie_partly_one_upon_another(self):
        # 2 4 and 3 5 have the piece from 3 to 4 in common, and each has an end of the other on it.
        inner = [(4, 4), (6, 6), (8, 8), (10, 10)]
        ways = [[inner[0], inner[2]], [inner[1], inner[3]], [(0, 0), inner[0]], [inner[3], (16, 16)],
                [inner[1], (16, 0)], [inner[2], (0, 16)]]
        data = draw(16, 16, ways, [(8, 4, 0, 0)])
        # 0 1, 0 2, 0 6, 1 3, 1 7, 2 4, ..
        self.assert_broken(data, 7, 20 + 8 * 8 + 4 * 5)

    def test_rule_7_touching_ends_are_no_crossing(self):
        self.assert_cartoon(run_cartoon())
        hub = [[(8, 8), p] for p in FRAME]
        self.assert_cartoon(draw(16, 16, hub, [(8, 4, 0, 0), (4, 8, 0, 0), (12, 8, 0, 0), (8, 12, 0, 0)]))

    def test_rule_7_a_point_in_a_row_but_beyond_an_end_is_not_on_the_line(self):
        ways = [[(0, 0), (4, 4), (8, 8), (16, 16)]]
        self.assert_cartoon(draw(16, 16, ways, [(8, 4, 0, 0), (4, 8, 0, 0)]))


class TestWays(Judged):
    def test_rule_8_a_point_without_lines(self):
        points = [(0, 0), (16, 0), (8, 8), (0, 16), (16, 16)]
        lines = [(0, 1), (0, 3), (1, 4), (3, 4)]
        self.assert_broken(encode(16, 16, points, lines, [(8, 4, 0, 0)]), 8, 36)

    def test_rule_8_a_point_with_one_line(self):
        points = [(0, 0), (16, 0), (8, 8), (0, 16), (16, 16)]
        lines = [(0, 1), (0, 2), (0, 3), (1, 4), (3, 4)]
        self.assert_broken(encode(16, 16, points, lines, [(8, 4, 0, 0)]), 8, 36)

    def test_rule_9_an_island(self):
        island = [(5, 5), (11, 5), (8, 11), (5, 5)]
        data = draw(16, 16, [island], [(8, 2, 0, 0), (8, 8, 0, 0)])
        # 0 (0, 0), 1 (16, 0), 2 (5, 5), ..
        self.assert_broken(data, 9, 20 + 8 * 2)

    def test_rule_9_an_island_within_a_pane(self):
        ways = [[(0, 0), (30, 30)], [(10, 20), (12, 20), (11, 22), (10, 20)]]
        data = draw(30, 30, ways, [(20, 10, 0, 0), (11, 21, 0, 0), (2, 28, 0, 0)])
        self.assert_broken(data, 9, 20 + 8 * 2)

    def test_rule_10_a_piece_that_hangs_by_a_point(self):
        hanging = [(0, 16), (6, 8), (8, 10), (0, 16)]
        data = draw(16, 16, [hanging], [(8, 2, 0, 0), (5, 11, 0, 0)])
        # 0 (0, 0), 1 (16, 0), 2 (6, 8), 3 (8, 10), 4 (0, 16)
        self.assert_broken(data, 10, 20 + 8 * 4)

    def test_rule_10_point_0(self):
        hanging = [(0, 0), (6, 8), (8, 6), (0, 0)]
        self.assert_broken(draw(16, 16, [hanging], [(8, 2, 0, 0), (5, 5, 0, 0)]), 10, 20)

    def test_rule_10_a_piece_that_hangs_by_a_line(self):
        hanging = [(0, 0), (4, 4), (4, 8), (8, 4), (4, 4)]
        data = draw(16, 16, [hanging], [(8, 2, 0, 0), (5, 5, 0, 0)])
        self.assert_broken(data, 10, 20)

    def test_rule_10_a_point_within(self):
        # Two triangles in the middle of a way have (8, 8) in common; below it all is well joined.
        ways = [[(0, 0), (8, 8), (16, 0)], [(8, 8), (6, 12), (10, 12), (8, 8)]]
        data = draw(16, 16, ways, [(8, 4, 0, 0), (2, 8, 0, 0), (8, 11, 0, 0)])
        self.assert_broken(data, 10, 20 + 8 * 2)

    def test_rule_10_two_points_that_part_it_together_are_no_fault(self):
        self.assert_cartoon(draw(16, 16, [[(0, 0), (6, 8), (16, 16)], [(0, 0), (8, 6), (16, 16)]],
                                 [(14, 2, 0, 0), (7, 7, 0, 0), (2, 14, 0, 0)]))


class TestMarks(Judged):
    def with_mark(self, k, x, y):
        marks = list(RUN_MARKS)
        marks[k] = (x, y, 0, 0)
        return run_cartoon(marks=marks)

    def test_rule_11_not_within_the_frame(self):
        self.assert_broken(self.with_mark(0, 15, 0), 11, MARKS_AT)
        self.assert_broken(self.with_mark(1, 0, 10), 11, MARKS_AT + 12)
        self.assert_broken(self.with_mark(1, 30, 10), 11, MARKS_AT + 12)
        self.assert_broken(self.with_mark(1, 31, 10), 11, MARKS_AT + 12)
        self.assert_broken(self.with_mark(2, 15, 20), 11, MARKS_AT + 24)
        self.assert_broken(self.with_mark(2, 15, 21), 11, MARKS_AT + 24)
        self.assert_broken(self.with_mark(2, 4294967295, 4294967295), 11, MARKS_AT + 24)
        self.assert_broken(self.with_mark(0, 0, 0), 11, MARKS_AT)

    def test_rule_11_on_a_line(self):
        self.assert_broken(self.with_mark(0, 5, 5), 11, MARKS_AT)
        self.assert_broken(self.with_mark(0, 20, 5), 11, MARKS_AT)
        self.assert_broken(self.with_mark(1, 9, 11), 11, MARKS_AT + 12)
        self.assert_broken(self.with_mark(1, 10, 10), 11, MARKS_AT + 12)

    def test_rule_11_on_a_line_that_leans_far(self):
        ways = [[(0, 0), (1048575, 1048572)]]
        between = [(1048575, 1048572)]
        # 1,048,575 and 1,048,572 are 3 times 349,525 and 349,524.
        marks = [(349525, 349524, 0, 0), (5, 99, 0, 0)]
        data = draw(1048575, 1048575, ways, marks, between)
        self.assert_broken(data, 11, len(data) - 12)
        for x, y in ((349526, 349524), (349525, 349523)):
            self.assert_cartoon(draw(1048575, 1048575, ways, [(x, y, 0, 0), (5, 99, 0, 0)], between))
        data = draw(1048575, 1048575, ways, [(5, 99, 0, 0), (349524, 349524, 0, 0)], between)
        self.assert_broken(data, 12, len(data) - 12)

    def test_rule_11_in_a_row_with_a_line_but_beyond_its_ends(self):
        hub = (8, 8)
        arms = [(8, 4), (12, 8), (8, 12), (4, 8)]
        ring = [(8, 4), (12, 8), (8, 12), (4, 8), (8, 4)]
        ways = [ring] + [[hub, arm] for arm in arms] + [[(0, 0), (4, 8)], [(16, 16), (12, 8)]]
        inner = [(9, 9), (7, 9), (9, 7), (7, 7)]
        # Above and below the upright lines, beside the level ones.
        for low, high in (((8, 2), (8, 14)), ((14, 8), (2, 8)), ((13, 3), (3, 13)), ((8, 3), (3, 8))):
            marks = [(x, y, 0, 0) for x, y in inner + [low, high]]
            self.assert_cartoon(draw(16, 16, ways, marks))
        for on in ((8, 5), (8, 10), (5, 8), (10, 8), (10, 6), (6, 10), (2, 4), (14, 12), (8, 8)):
            marks = sorted(inner + [(13, 3), (3, 13), on], key=lambda spot: (spot[1], spot[0]))
            data = draw(16, 16, ways, [spot + (0, 0) for spot in marks])
            self.assert_broken(data, 11, len(data) - 12 * (7 - marks.index(on)))

    def test_rule_11_in_a_row_with_upright_and_level_lines_near_the_corners(self):
        upright = [[(2, 16), (2, 10), (0, 10)], [(14, 0), (14, 6), (16, 6)]]
        for spot in ((2, 5), (14, 10), (2, 9), (14, 7)):
            marks = [(15, 3, 0, 0), (1, 12, 0, 0), spot + (0, 0)]
            self.assert_cartoon(draw(16, 16, upright, marks, [(2, 16), (0, 10), (14, 0), (16, 6)]))
        level = [[(y, x) for x, y in way] for way in upright]
        for spot in ((5, 2), (10, 14), (9, 2), (7, 14)):
            marks = [(3, 15, 0, 0), (12, 1, 0, 0), spot + (0, 0)]
            self.assert_cartoon(draw(16, 16, level, marks, [(16, 2), (10, 0), (0, 14), (6, 16)]))

    def test_rule_11_the_highest_bytes_count(self):
        for more in (256, 65536, 16777216):
            self.assert_broken(self.with_mark(2, 20 + more, 15), 11, MARKS_AT + 24)
            self.assert_broken(self.with_mark(2, 20, 15 + more), 11, MARKS_AT + 24)

    def test_rule_11_order(self):
        self.assert_broken(self.with_mark(1, 15, 2), 11, MARKS_AT + 12)
        self.assert_broken(self.with_mark(1, 14, 2), 11, MARKS_AT + 12)
        self.assert_broken(self.with_mark(1, 16, 1), 11, MARKS_AT + 12)
        self.assert_broken(self.with_mark(0, 2, 11), 11, MARKS_AT + 12)

    def test_rule_11_marks_of_one_y_stand_by_x(self):
        ways = [[(8, 0), (8, 16)]]
        between = [(8, 0), (8, 16)]
        points, lines, marks = parts_of([frame_way(16, 16, between)] + ways, [(4, 8, 0, 0), (12, 8, 0, 0)])
        self.assert_cartoon(encode(16, 16, points, lines, marks))
        self.assert_broken(encode(16, 16, points, lines, marks[::-1]), 11, 20 + 8 * 6 + 4 * 7 + 12)

    def test_rule_12_two_marks_in_one_pane(self):
        marks = [(15, 2, 0, 0), (16, 2, 0, 0), (2, 10, 0, 0), (20, 15, 0, 0)]
        self.assert_broken(run_cartoon(marks=marks), 12, MARKS_AT + 12)
        marks = [(15, 2, 0, 0), (2, 10, 0, 0), (20, 15, 0, 0), (21, 15, 0, 0)]
        self.assert_broken(run_cartoon(marks=marks), 12, MARKS_AT + 36)
        marks = [(15, 2, 0, 0), (2, 10, 0, 0), (29, 10, 0, 0), (2, 19, 0, 0)]
        self.assert_broken(run_cartoon(marks=marks), 12, MARKS_AT + 36)

    def test_rule_12_in_a_pane_that_is_not_convex(self):
        # One pane goes round both sides of a wedge; the two marks see nothing of one another.
        ways = [[(6, 0), (8, 14), (10, 0)]]
        between = [(6, 0), (10, 0)]
        data = draw(16, 16, ways, [(8, 1, 0, 0), (1, 2, 0, 0), (15, 3, 0, 0)], between)
        self.assert_broken(data, 12, len(data) - 12)
        self.assert_cartoon(draw(16, 16, ways, [(8, 1, 0, 0), (1, 2, 0, 0)], between))

    def test_rule_13_a_pane_without_a_mark(self):
        for k in range(3):
            marks = RUN_MARKS[:k] + RUN_MARKS[k + 1:]
            data = run_cartoon(marks=marks)
            self.assertEqual(len(data), MARKS_AT + 24)
            self.assert_broken(data, 13, MARKS_AT + 24)
        self.assert_broken(run_cartoon(marks=RUN_MARKS[:1]), 13, MARKS_AT + 12)

    def test_rule_13_a_pane_without_a_whole_point(self):
        ways = [[(0, 0), (8, 7), (16, 16)], [(0, 0), (16, 16)]]
        data = draw(16, 16, ways, [(14, 2, 0, 0), (2, 14, 0, 0)])
        self.assert_broken(data, 13, len(data))


class TestOrder(Judged):
    def test_the_first_rule_is_told(self):
        bad_point = list(RUN_POINTS)
        bad_point[2] = (31, 10)
        bad_line = list(RUN_LINES)
        bad_line[0] = (0, 0)
        bad_mark = [(0, 2, 0, 0)] + RUN_MARKS[1:]
        bad_head = changed(run_cartoon(), 4, 15, 0, 0, 0)
        self.assert_broken(changed(bad_head, 0, 0), 1, 0)
        self.assert_broken(bad_head[:-1], 2, 4)
        self.assert_broken(run_cartoon(points=bad_point)[:-1], 3, 20)
        self.assert_broken(run_cartoon(points=bad_point, lines=bad_line), 4, 36)
        self.assert_broken(run_cartoon(points=bad_point, marks=bad_mark), 4, 36)
        self.assert_broken(run_cartoon(width=31, lines=bad_line), 5, LINES_AT)
        self.assert_broken(run_cartoon(lines=bad_line, marks=bad_mark), 5, LINES_AT)

    def test_rule_6_before_7(self):
        lines = [(0, 1), (0, 3), (1, 2), (1, 3), (2, 3)]
        self.assert_broken(encode(16, 16, FRAME, lines, [(8, 4, 0, 0)]), 6, 20)

    def test_rule_7_before_8(self):
        # Point 2 has no line; the two lines across cross beside it.
        points = [(0, 0), (16, 0), (8, 2), (0, 16), (16, 16)]
        lines = [(0, 1), (0, 3), (0, 4), (1, 3), (1, 4), (3, 4)]
        self.assert_broken(encode(16, 16, points, lines, [(8, 4, 0, 0)]), 7, 60 + 12)

    def test_rule_8_before_9(self):
        # The island has the lower numbers, the point that ends a lone line the highest within.
        ways = [[(5, 5), (11, 5), (8, 9), (5, 5)], [(0, 16), (8, 14)]]
        data = draw(16, 16, ways, [(8, 2, 0, 0)])
        self.assert_broken(data, 8, 20 + 8 * 5)

    def test_rule_9_before_10(self):
        ways = [[(5, 5), (11, 5), (8, 9), (5, 5)], [(0, 0), (2, 1), (1, 2), (0, 0)]]
        data = draw(16, 16, ways, [(8, 2, 0, 0)])
        # 0 (0, 0), 1 (16, 0), 2 (2, 1), 3 (1, 2), 4 (5, 5)
        self.assert_broken(data, 9, 20 + 8 * 4)

    def test_rule_10_before_11(self):
        ways = [[(16, 16), (8, 9), (9, 8), (16, 16)]]
        data = draw(16, 16, ways, [(0, 2, 0, 0)])
        self.assert_broken(data, 10, 20 + 8 * 5)

    def test_rule_11_before_12(self):
        marks = [(15, 2, 0, 0), (16, 2, 0, 0), (2, 10, 0, 0), (20, 20, 0, 0)]
        self.assert_broken(run_cartoon(marks=marks), 11, MARKS_AT + 36)

    def test_rule_12_before_13(self):
        marks = [(15, 2, 0, 0), (20, 15, 0, 0), (21, 15, 0, 0)]
        self.assert_broken(run_cartoon(marks=marks), 12, MARKS_AT + 24)

    def test_rule_2_least_place(self):
        both = changed(run_cartoon(), 4, 1, 0, 0, 0, 1, 0, 0, 0)
        self.assert_broken(both, 2, 4)
        self.assert_broken(changed(run_cartoon(), 12, 0, 0, 0, 0, 0, 0, 1, 1), 2, 12)
        self.assert_broken(changed(run_cartoon(), 14, 0, 0, 0, 0, 1, 1), 2, 14)
        self.assert_broken(changed(run_cartoon(), 16, 0, 0, 1, 1), 2, 16)

    def test_rules_4_5_11_least_place(self):
        self.assert_broken(run_cartoon(points=[(0, 0), (31, 0), (10, 10), (10, 10), (30, 21)]), 4, 28)
        self.assert_broken(run_cartoon(points=[(0, 0), (30, 0), (10, 10), (10, 10), (31, 20)]), 4, 44)
        lines = [(0, 1), (0, 1), (0, 5), (1, 1), (1, 4), (2, 3), (3, 4)]
        self.assert_broken(run_cartoon(lines=lines), 5, LINES_AT + 4)
        lines[1] = (0, 2)
        self.assert_broken(run_cartoon(lines=lines), 5, LINES_AT + 8)
        lines[2] = (0, 3)
        self.assert_broken(run_cartoon(lines=lines), 5, LINES_AT + 12)
        marks = [(15, 2, 0, 0), (5, 5, 0, 0), (4, 5, 0, 0), (0, 19, 0, 0)]
        self.assert_broken(run_cartoon(marks=marks), 11, MARKS_AT + 12)
        marks[1] = (15, 5, 0, 0)
        self.assert_broken(run_cartoon(marks=marks), 11, MARKS_AT + 24)

    def test_rule_7_least_place(self):
        ways = [[(0, 4), (16, 12)], [(0, 12), (16, 4)], [(0, 8), (16, 8)]]
        between = [(0, 4), (0, 8), (0, 12), (16, 4), (16, 8), (16, 12)]
        data = draw(16, 16, ways, [(8, 1, 0, 0)], between)
        # 2 (0, 4), 3 (16, 4), 4 (0, 8), 5 (16, 8), 6 (0, 12), 7 (16, 12), 8 (0, 16):
        # 0 1, 0 2, 1 3, 2 4, 2 7, 3 5, 3 6 (crosses 2 7), 4 5 (crosses both)
        self.assert_broken(data, 7, 20 + 8 * 10 + 4 * 6)

    def test_rules_8_9_10_12_least_place(self):
        ways = [[(0, 0), (5, 7)], [(16, 16), (9, 9)]]
        self.assert_broken(draw(16, 16, ways, [(8, 1, 0, 0)]), 8, 20 + 8 * 2)
        ways = [[(3, 3), (5, 3), (4, 5), (3, 3)], [(9, 9), (12, 9), (9, 12), (9, 9)]]
        self.assert_broken(draw(16, 16, ways, [(8, 1, 0, 0)]), 9, 20 + 8 * 2)
        ways = [[(16, 0), (12, 3), (13, 4), (16, 0)], [(16, 16), (9, 10), (10, 9), (16, 16)]]
        self.assert_broken(draw(16, 16, ways, [(8, 1, 0, 0)]), 10, 20 + 8)
        marks = [(15, 2, 0, 0), (16, 2, 0, 0), (17, 2, 0, 0), (2, 10, 0, 0), (20, 15, 0, 0), (21, 15, 0, 0)]
        self.assert_broken(run_cartoon(marks=marks), 12, MARKS_AT + 12)


if __name__ == "__main__":
    unittest.main()
