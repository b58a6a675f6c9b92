"""alike: the document's run, refusals and their order, which panes have a line in common, bounds, promise 5."""

import inspect
import random
import unittest

from tests import oracle
from tests.cartoons import RUN_MARKS, draw, encode, grid, light, one_pane, row, run_cartoon
from tests.drawn import Watched, drawings, drawn_lights, in_one_list
from windowlight import desk

FULL = light(65535)
GLASSES = light(65535) + light(32768)
PAINTINGS = light(16384)
RUN_BOUND = 32 * 24577 * 24577
MOST = 18446744073709551615
FARTHEST = 32 * 65535 * 65535
BOUNDS = (0, 1, 2, RUN_BOUND, FARTHEST, FARTHEST + 1, 4294967295, 4294967296, MOST)
NO_CARTOON = [71, 76, 65]


def marked(*lights):
    """The run's cartoon with other glasses and paintings."""
    return run_cartoon(marks=[mark[:2] + own for mark, own in zip(RUN_MARKS, lights)])


def three_in_a_row(middle=0):
    """A window that is cut upright twice: panes 0, 1, 2 from the left, the middle one with a glass of its own."""
    ends = [[(8, 0), (8, 16)], [(16, 0), (16, 16)]]
    return draw(24, 16, ends, [(1, 1, 0, 0), (9, 1, middle, 0), (17, 1, 0, 0)], ends[0] + ends[1])


def halves(one=(0, 0), other=(1, 0)):
    """A window that is cut upright: pane 0 to the left, pane 1 to the right."""
    ends = [(8, 0), (8, 16)]
    return draw(16, 16, [ends], [(1, 1, *one), (15, 1, *other)], ends)


class TestRun(unittest.TestCase):
    def test_run(self):
        self.assertEqual(desk.alike(RUN_BOUND, run_cartoon(), GLASSES, PAINTINGS), row(1, 2))

    def test_just_the_bound_apart(self):
        self.assertEqual(desk.alike(32 * 24576 * 24576, run_cartoon(), GLASSES, PAINTINGS), row())
        self.assertEqual(desk.alike(32 * 24576 * 24576 + 1, run_cartoon(), GLASSES, PAINTINGS), row(1, 2))
        # Lights 65,535, 32,768, 8,192: apart by 32,767 and 57,343.
        self.assertEqual(desk.alike(32 * 32767 * 32767, run_cartoon(), GLASSES, PAINTINGS), row(1, 2))
        self.assertEqual(desk.alike(32 * 32767 * 32767 + 1, run_cartoon(), GLASSES, PAINTINGS), row(0, 1, 1, 2))
        self.assertEqual(desk.alike(32 * 57343 * 57343, run_cartoon(), GLASSES, PAINTINGS), row(0, 1, 1, 2))
        self.assertEqual(desk.alike(32 * 57343 * 57343 + 1, run_cartoon(), GLASSES, PAINTINGS), row(0, 1, 0, 2, 1, 2))


class TestInterface(unittest.TestCase):
    def test_arguments(self):
        self.assertEqual(list(inspect.signature(desk.alike).parameters),
                         ["bound", "cartoon", "glasses", "paintings"])

    def test_by_names(self):
        told = {"paintings": PAINTINGS, "glasses": GLASSES, "cartoon": run_cartoon(), "bound": RUN_BOUND}
        self.assertEqual(desk.alike(**told), row(1, 2))

    def test_numbers_are_ints_in_lists(self):
        for told in ((run_cartoon(), GLASSES, PAINTINGS), ([], GLASSES, PAINTINGS), (run_cartoon(), [], []),
                     (run_cartoon(), [0], []), (run_cartoon(), FULL * 257, [])):
            for bound in (0, RUN_BOUND, MOST):
                answer = desk.alike(bound, *told)
                self.assertIs(type(answer), list)
                self.assertEqual({type(number) for number in answer}, {int})


class Refusals(unittest.TestCase):
    def assert_answers(self, answer, cartoon, glasses, paintings):
        for bound in BOUNDS:
            self.assertEqual(desk.alike(bound, cartoon, glasses, paintings), answer)


class TestRefusals(Refusals):
    def test_glasses_and_paintings_are_no_lights(self):
        wrong = [[0], FULL[:31], FULL + [0], FULL + FULL[:31], [0] * 63, [0] * 65, [0] * 8999, [0] * 9000,
                 light(65536), light(4294967295), FULL + [0] * 31 + [65536], [65536] + [0] * 63, [-1] + [0] * 31,
                 GLASSES + light(65536), FULL * 255 + light(65536)]
        for row_of_lights in wrong:
            self.assert_answers([-1], run_cartoon(), row_of_lights, PAINTINGS)
            self.assert_answers([-1], run_cartoon(), GLASSES, row_of_lights)
            self.assert_answers([-1], run_cartoon(), row_of_lights, row_of_lights)

    def test_lengths_about_one_light(self):
        for length in range(101):
            if length % 32 > 0:
                self.assertEqual(desk.alike(1, halves((0, 0), (0, 0)), [0] * length, []), [-1])
                self.assertEqual(desk.alike(1, halves((0, 0), (0, 0)), FULL, [0] * length), [-1])
            elif length > 0:
                self.assertEqual(desk.alike(1, halves((0, 0), (0, 0)), [0] * length, []), row(0, 1))
                self.assertEqual(desk.alike(1, halves((0, 0), (0, 0)), FULL, [0] * length), row(0, 1))

    def test_bands_above_65535(self):
        for number in (65536, 65537, 98304, 131071, 2147483648, 4294967295):
            for place in (0, 13, 31, 32, 63):
                wrong = list(GLASSES)
                wrong[place] = number
                self.assert_answers([-1], run_cartoon(), wrong, PAINTINGS)
            for place in (0, 13, 31):
                wrong = list(PAINTINGS)
                wrong[place] = number
                self.assert_answers([-1], run_cartoon(), GLASSES, wrong)

    def test_an_empty_list_is_of_no_lights(self):
        self.assert_answers([-3, 0], run_cartoon(), [], PAINTINGS)
        self.assert_answers([-3, 2], run_cartoon(), GLASSES, [])
        self.assert_answers([-3, 0], run_cartoon(), [], [])
        self.assert_answers(row(), one_pane(), FULL, [])

    def test_too_many(self):
        self.assert_answers([-6], run_cartoon(), FULL * 257, PAINTINGS)
        self.assert_answers([-6], run_cartoon(), GLASSES, FULL * 257)
        self.assert_answers([-6], run_cartoon(), FULL * 281, FULL * 281)
        self.assert_answers([-6], run_cartoon() + [0] * 131072, GLASSES, PAINTINGS)
        self.assert_answers([-6], [0] * 131073, GLASSES, PAINTINGS)
        self.assert_answers([-5, 1, 0], [0] * 131072, GLASSES, PAINTINGS)

    def test_256_are_allowed(self):
        glasses = FULL * 254 + light(7) + light(9)
        self.assertEqual(desk.alike(128, halves((254, 0), (255, 0)), glasses, FULL * 256), row())
        self.assertEqual(desk.alike(129, halves((254, 0), (255, 0)), glasses, FULL * 256), row(0, 1))
        paintings = light(0) * 254 + light(7) + light(9)
        self.assertEqual(desk.alike(128, halves((255, 255), (255, 256)), FULL * 256, paintings), row())
        self.assertEqual(desk.alike(129, halves((255, 255), (255, 256)), FULL * 256, paintings), row(0, 1))

    def test_no_cartoon(self):
        cartoon = run_cartoon()
        self.assert_answers([-5, 1, 0], [0] * 20, GLASSES, PAINTINGS)
        self.assert_answers([-5, 1, 0], [0] * 100000, GLASSES, PAINTINGS)
        for length in range(20):
            self.assert_answers([-5, 1, length], cartoon[:length], GLASSES, PAINTINGS)
        self.assert_answers([-5, 2, 4], cartoon[:4] + [15] + cartoon[5:], GLASSES, PAINTINGS)
        self.assert_answers([-5, 3, 20], cartoon[:-1], GLASSES, PAINTINGS)
        self.assert_answers([-5, 12, 20 + 40 + 28 + 12], run_cartoon(marks=[(15, 2, 0, 0), (16, 2, 0, 0)]),
                            GLASSES, PAINTINGS)
        self.assert_answers([-5, 13, 20 + 40 + 28 + 24], run_cartoon(marks=RUN_MARKS[:2]), GLASSES, PAINTINGS)

    def test_the_first_mark_that_does_not_go_with_the_shop(self):
        self.assert_answers([-3, 0], marked((2, 0), (2, 0), (2, 0)), GLASSES, PAINTINGS)
        self.assert_answers([-3, 1], marked((0, 0), (2, 0), (0, 2)), GLASSES, PAINTINGS)
        self.assert_answers([-3, 1], marked((0, 0), (0, 2), (2, 0)), GLASSES, PAINTINGS)
        self.assert_answers([-3, 2], marked((0, 0), (1, 1), (1, 2)), GLASSES, PAINTINGS)
        self.assert_answers([-3, 0], one_pane(256), FULL * 256, [])
        self.assert_answers([-3, 0], one_pane(0, 257), FULL, FULL * 256)
        self.assert_answers([-3, 0], one_pane(65535, 65535), FULL * 256, FULL * 256)


class TestOrder(Refusals):
    def test_lights_before_all(self):
        self.assert_answers([-1], NO_CARTOON, FULL * 257, [0])
        self.assert_answers([-1], NO_CARTOON, [0], FULL * 257)
        self.assert_answers([-1], [0] * 131073, FULL, light(65536))
        self.assert_answers([-1], one_pane(), light(65536) * 257, [])
        self.assert_answers([-1], one_pane(9), [], [0] * 9000)
        self.assert_answers([-1], NO_CARTOON, [], [0])

    def test_too_many_before_no_cartoon(self):
        self.assert_answers([-6], NO_CARTOON, FULL * 257, [])
        self.assert_answers([-6], NO_CARTOON, [], FULL * 257)
        self.assert_answers([-6], [0] * 131073, [], [])

    def test_too_many_before_no_light(self):
        self.assert_answers([-6], one_pane(300), FULL * 257, [])
        self.assert_answers([-6], one_pane(0, 300), FULL, FULL * 257)

    def test_no_cartoon_before_no_light(self):
        self.assert_answers([-5, 1, 3], NO_CARTOON, [], [])
        doubled = draw(16, 16, [], [(5, 5, 9, 9), (6, 5, 9, 9)])
        self.assert_answers([-5, 12, 20 + 32 + 16 + 12], doubled, [], [])


class TestLineInCommon(unittest.TestCase):
    def assert_beside(self, pairs, cartoon):
        """Hold the pairs that have a line in common, told by i, then j, against what all glasses alike show."""
        told = row(*[k for pair in pairs for k in pair])
        for bound in (1, MOST):
            self.assertEqual(desk.alike(bound, cartoon, FULL, []), told)
        self.assertEqual(desk.alike(0, cartoon, FULL, []), row())
        self.assertEqual(oracle.beside(cartoon), pairs)

    def test_one_pane(self):
        self.assert_beside([], one_pane())
        between = [(3, 0), (16, 5), (7, 16), (0, 1)]
        self.assert_beside([], draw(16, 16, [], [(5, 5, 0, 0)], between))

    def test_two_panes(self):
        self.assert_beside([(0, 1)], halves((0, 0), (0, 0)))

    def test_panes_that_touch_in_a_point_alone(self):
        between = [(8, 0), (8, 16), (0, 8), (16, 8)]
        ways = [[(8, 0), (8, 8), (8, 16)], [(0, 8), (8, 8), (16, 8)]]
        marks = [(1, 1, 0, 0), (15, 1, 0, 0), (1, 15, 0, 0), (15, 15, 0, 0)]
        # 0 and 3, 1 and 2 have but the point in the middle in common.
        self.assert_beside([(0, 1), (0, 2), (1, 3), (2, 3)], draw(16, 16, ways, marks, between))

    def test_wedges_round_a_hub(self):
        hub = (10, 10)
        ends = [(0, 0), (10, 0), (20, 0), (20, 10), (20, 20), (10, 20), (0, 20), (0, 10)]
        marks = [(9, 1), (11, 1), (1, 9), (19, 9), (1, 11), (19, 11), (9, 19), (11, 19)]
        cartoon = draw(20, 20, [[hub, end] for end in ends], [mark + (0, 0) for mark in marks],
                       [(10, 0), (20, 10), (10, 20), (0, 10)])
        self.assert_beside([(0, 1), (0, 2), (1, 3), (2, 4), (3, 5), (4, 6), (5, 7), (6, 7)], cartoon)

    def test_panes_in_a_row(self):
        ends = [[(8 * k, 0), (8 * k, 16)] for k in range(1, 5)]
        marks = [(8 * k + 1, 5, 0, 0) for k in range(5)]
        cartoon = draw(40, 16, ends, marks, [end for pair in ends for end in pair])
        self.assert_beside([(0, 1), (1, 2), (2, 3), (3, 4)], cartoon)

    def test_several_lines_in_common_are_told_once(self):
        zigzag = [(0, 8), (4, 4), (8, 12), (12, 4), (16, 8)]
        cartoon = draw(16, 16, [zigzag], [(1, 1, 0, 0), (1, 15, 0, 0)], [(0, 8), (16, 8)])
        self.assert_beside([(0, 1)], cartoon)

    def test_several_lines_in_common_that_lie_apart(self):
        # A square on the line between two panes: they have a line to its left and one to its right in common.
        ways = [[(0, 10), (8, 10), (10, 8), (12, 10), (20, 10)], [(8, 10), (10, 12), (12, 10)]]
        marks = [(1, 1, 0, 0), (10, 10, 0, 0), (1, 19, 0, 0)]
        cartoon = draw(20, 20, ways, marks, [(0, 10), (20, 10)])
        self.assert_beside([(0, 1), (0, 2), (1, 2)], cartoon)

    def test_a_pane_within_another(self):
        # The outer pane is cut by a line to each side, as rule 10 asks for.
        ways = [[(5, 5), (15, 5), (15, 15), (5, 15), (5, 5)], [(0, 0), (5, 5)], [(15, 15), (20, 20)]]
        marks = [(19, 1, 0, 0), (10, 10, 0, 0), (1, 19, 0, 0)]
        self.assert_beside([(0, 1), (0, 2), (1, 2)], draw(20, 20, ways, marks))

    def test_lines_in_a_row_that_no_two_panes_share(self):
        # Above the level line two panes, below it two others, their ends shifted: 0 lies below 2 and 3, 1 below 3.
        ways = [[(0, 8), (4, 8), (12, 8), (16, 8)], [(12, 0), (12, 8)], [(4, 8), (4, 16)]]
        marks = [(1, 1, 0, 0), (15, 1, 0, 0), (1, 15, 0, 0), (15, 15, 0, 0)]
        cartoon = draw(16, 16, ways, marks, [(0, 8), (16, 8), (12, 0), (4, 16)])
        self.assert_beside([(0, 1), (0, 2), (0, 3), (1, 3), (2, 3)], cartoon)

    def test_the_frames_lines_are_no_ones_in_common(self):
        # The frame joins 0 with 2, but from without alone.
        self.assert_beside([(0, 1), (1, 2)], three_in_a_row())

    def test_pairs_are_numbered_by_marks(self):
        # Pane 0 lies to the right, pane 1 to the left, and they have no line in common; pane 2 lies above both.
        ways = [[(0, 0), (10, 10)], [(20, 0), (10, 10)], [(10, 10), (10, 20)]]
        marks = [(10, 1, 0, 0), (19, 8, 1, 0), (1, 9, 2, 0)]
        cartoon = draw(20, 20, ways, marks, [(10, 20)])
        self.assertEqual(desk.alike(MOST, cartoon, FULL * 3, []), row(0, 1, 0, 2, 1, 2))
        self.assertEqual(desk.alike(1, cartoon, light(7) + light(9) + light(7), []), row(0, 2))
        self.assertEqual(desk.alike(1, cartoon, light(7) + light(7) + light(9), []), row(0, 1))
        self.assertEqual(desk.alike(1, cartoon, light(9) + light(7) + light(7), []), row(1, 2))

    def test_in_the_largest_window(self):
        most = 1048575
        ways = [[(0, 0), (most, most)], [(0, 0), (1, 3), (2, 5), (most, most)]]
        marks = [(most - 1, 1, 0, 0), (1, 2, 0, 0), (1, most - 1, 0, 0)]
        self.assert_beside([(0, 1), (1, 2)], draw(most, most, ways, marks))

    def test_two_hundred_points(self):
        cartoon = grid(20, 10, 9)
        pairs = oracle.beside(cartoon)
        # A line within each of 19 by 9 squares, the level ones between squares, the upright ones.
        self.assertEqual(len(pairs), 19 * 9 + 19 * 8 + 18 * 9)
        self.assert_beside(pairs, cartoon)

    def test_a_point_with_very_many_lines(self):
        ends = [(1000, 10 * k) for k in range(1, 196)]
        marks = [(999, 10 * k + 5, 0, 0) for k in range(195)] + [(1, 1999, 0, 0)]
        cartoon = draw(1000, 2000, [[(0, 0), end] for end in ends], marks, ends)
        self.assertEqual(cartoon[12], 199)
        self.assert_beside([(k, k + 1) for k in range(195)], cartoon)

    def test_drawn_cartoons(self):
        for drawing in drawings():
            cartoon = encode(*drawing[:4], [mark[:2] + (0, 0) for mark in drawing[4]])
            self.assert_beside(oracle.beside(cartoon), cartoon)


class TestLights(unittest.TestCase):
    def assert_apart(self, distance, cartoon, glasses, paintings):
        """Hold how far apart panes 0 and 1 are against the bounds just there and beyond."""
        self.assertEqual(desk.alike(distance, cartoon, glasses, paintings), row())
        self.assertEqual(desk.alike(distance + 1, cartoon, glasses, paintings), row(0, 1))
        self.assertEqual(desk.alike(MOST, cartoon, glasses, paintings), row(0, 1))

    def test_glasses(self):
        self.assert_apart(0, halves(), light(7) + light(7), [])
        self.assert_apart(128, halves(), light(7) + light(9), [])
        self.assert_apart(128, halves(), light(9) + light(7), [])
        self.assert_apart(FARTHEST, halves(), light(0) + FULL, [])
        self.assert_apart(FARTHEST, halves(), FULL + light(0), [])

    def test_squares_of_each_band(self):
        for band in range(32):
            other = light(100)
            other[band] = 95
            self.assert_apart(25, halves(), light(100) + other, [])
        self.assert_apart(3200, halves(), light(100) + [90, 110] * 16, [])
        self.assert_apart(sum(k * k for k in range(32)), halves(), light(0) + list(range(32)), [])

    def test_a_painting_counts(self):
        # One glass, another painting; then another glass, and a painting that makes it the same.
        self.assert_apart(32 * 10 * 10, halves((0, 1), (0, 2)), FULL, light(30) + light(40))
        self.assert_apart(32 * 25535 * 25535, halves((0, 0), (0, 1)), FULL, light(40000))
        self.assert_apart(0, halves((0, 1), (1, 0)), FULL + light(40000), light(40000))
        self.assert_apart(0, halves((0, 2), (1, 1)), light(32768) + light(16384), light(32768) + light(16384))

    def test_a_painting_is_rounded(self):
        # 1 by 32,768 is a little more than a half: 1; by 32,767 a little less: 0.
        self.assert_apart(0, halves((0, 0), (0, 1)), light(1), light(32768))
        self.assert_apart(32, halves((0, 0), (0, 1)), light(1), light(32767))

    def test_no_daylight_goes_through_it(self):
        # Light that is seen by no daylight at all would be alike everywhere.
        self.assert_apart(32 * 65535 * 65535, halves((0, 0), (0, 1)), FULL, light(0))

    def test_each_pane_has_its_own(self):
        told = marked((0, 0), (1, 0), (0, 0))
        self.assertEqual(desk.alike(1, told, light(7) + light(9), []), row(0, 2))
        self.assertEqual(desk.alike(1, marked((0, 0), (0, 0), (1, 0)), light(7) + light(9), []), row(0, 1))
        self.assertEqual(desk.alike(1, marked((1, 0), (0, 0), (0, 0)), light(7) + light(9), []), row(1, 2))

    def test_panes_alike_that_have_no_line_in_common(self):
        self.assertEqual(desk.alike(1, three_in_a_row(1), light(7) + light(9), []), row())
        self.assertEqual(desk.alike(129, three_in_a_row(1), light(7) + light(9), []), row(0, 1, 1, 2))


def drawn_shop(seed):
    """Three glasses and two paintings, as lists of lights."""
    source = random.Random(seed)
    return drawn_lights(source, 3), drawn_lights(source, 2)


def distances(cartoon, glasses, paintings):
    """How far apart the panes are that have a line in common, each number once."""
    own = [oracle.own_light(mark, glasses, paintings) for mark in oracle.parts(cartoon)[4]]
    return sorted({oracle.apart(own[i], own[j]) for i, j in oracle.beside(cartoon)})


class TestPromise5(unittest.TestCase):
    def windows(self):
        for k, drawing in enumerate(drawings()):
            cartoon = encode(*drawing)
            glasses, paintings = drawn_shop(k)
            yield cartoon, glasses, paintings, distances(cartoon, glasses, paintings)

    def test_the_windows_are_of_all_kinds(self):
        kinds = [len(found) for cartoon, glasses, paintings, found in self.windows()]
        self.assertGreater(sum(kind > 2 for kind in kinds), 20)
        self.assertGreater(sum(kind == 1 for kind in kinds), 2)

    def test_a_greater_bound_tells_all_that_a_lesser_does(self):
        grown = 0
        for cartoon, glasses, paintings, found in self.windows():
            told = (cartoon, in_one_list(glasses), in_one_list(paintings))
            before = []
            for bound in sorted({0, 1, MOST} | set(found) | {distance + 1 for distance in found}):
                answer = desk.alike(bound, *told)
                pairs = list(zip(answer[2::2], answer[3::2], strict=True))
                self.assertEqual(answer[:2], [0, 2 * len(pairs)])
                self.assertEqual(pairs, sorted(set(pairs)))
                self.assertTrue(all(i < j for i, j in pairs))
                self.assertLessEqual(set(before), set(pairs))
                grown += len(pairs) > len(before) > 0
                before = pairs
        self.assertGreater(grown, 30)

    def test_by_0_none(self):
        for cartoon, glasses, paintings, found in self.windows():
            self.assertEqual(desk.alike(0, cartoon, in_one_list(glasses), in_one_list(paintings)), row())
            # Not even panes of the very same light.
            self.assertEqual(desk.alike(0, cartoon, FULL * 3, FULL * 2), row())

    def test_against_the_oracle(self):
        for cartoon, glasses, paintings, found in self.windows():
            told = (in_one_list(glasses), in_one_list(paintings))
            for bound in found + [distance + 1 for distance in found] + [MOST]:
                self.assertEqual(desk.alike(bound, cartoon, *told),
                                 row(*oracle.alike(bound, cartoon, glasses, paintings)))


class TestNothingIsKept(unittest.TestCase):
    CASES = {
        "answer": (RUN_BOUND, run_cartoon(), GLASSES, PAINTINGS),
        "all": (MOST, run_cartoon(), GLASSES, PAINTINGS),
        "none": (0, run_cartoon(), GLASSES, PAINTINGS),
        "no such light": (MOST, run_cartoon(), GLASSES, []),
        "no cartoon": (MOST, run_cartoon()[:-1], GLASSES, PAINTINGS),
        "no lights": (MOST, run_cartoon(), GLASSES + [0], PAINTINGS),
        "too many": (MOST, run_cartoon(), FULL * 257, PAINTINGS),
    }

    def test_what_is_handed_in_stays(self):
        for name, (bound, *told) in self.CASES.items():
            handed = [list(part) for part in told]
            answer = desk.alike(bound, *handed)
            self.assertEqual(handed, told, name)
            self.assertEqual(desk.alike(bound, *[Watched(part) for part in told]), answer, name)

    def test_a_second_time_is_as_the_first(self):
        first = {name: desk.alike(*told) for name, told in self.CASES.items()}
        for name, told in reversed(self.CASES.items()):
            self.assertEqual(desk.alike(*told), first[name], name)

    def test_an_answer_is_the_callers_own(self):
        for name, told in self.CASES.items():
            first = desk.alike(*told)
            kept = list(first)
            first[:] = [-7]
            self.assertEqual(desk.alike(*told), kept, name)


if __name__ == "__main__":
    unittest.main()
