"""Every refusal, and the order in which they are looked at."""

import unittest

from tests.cartoons import RUN_MARKS, draw, grid, light, one_pane, row, run_cartoon, same_row
from windowlight import desk

FULL = light(65535)
GLASSES = light(65535) + light(32768)
PAINTINGS = light(16384)
NO_CARTOON = [71, 76, 65]


class Refusals(unittest.TestCase):
    def assert_answers(self, answer, cartoon, glasses, paintings, daylight, i=0):
        self.assertEqual(desk.pane(i, cartoon, glasses, paintings, daylight), answer)
        if answer != [-2]:
            self.assertEqual(desk.all_of(cartoon, glasses, paintings, daylight), answer)


class TestLights(Refusals):
    def test_daylight(self):
        wrong = [[], FULL[:31], FULL + [0], FULL * 2, light(65536), light(4294967295), [0] * 31 + [65536],
                 [65536] + [0] * 31, [0] * 100, [-1] + [0] * 31]
        for daylight in wrong:
            self.assert_answers([-1], run_cartoon(), GLASSES, PAINTINGS, daylight)

    def test_daylight_at_the_ends_of_its_range(self):
        self.assert_answers(same_row(0), run_cartoon(), GLASSES, PAINTINGS, light(0))
        daylight = [0, 65535] * 16
        self.assert_answers(row(*daylight), one_pane(), GLASSES, PAINTINGS, daylight)

    def test_glasses_and_paintings(self):
        for wrong in ([0], FULL[:31], FULL + [0], FULL + FULL[:31], light(65536), FULL + [0] * 31 + [65536],
                      [65536] + [0] * 63, [0] * 8999):
            self.assert_answers([-1], run_cartoon(), wrong, PAINTINGS, FULL)
            self.assert_answers([-1], run_cartoon(), GLASSES, wrong, FULL)

    def test_a_wrong_light_that_no_pane_has(self):
        self.assert_answers([-1], run_cartoon(), GLASSES + light(65536), PAINTINGS, FULL)
        self.assert_answers([-1], run_cartoon(), GLASSES, PAINTINGS + light(65536), FULL)

    def test_an_empty_list_is_no_such_fault(self):
        self.assert_answers([-3, 0], run_cartoon(), [], PAINTINGS, FULL)
        self.assert_answers([-3, 2], run_cartoon(), GLASSES, [], FULL)
        self.assert_answers([-3, 0], run_cartoon(), [], [], FULL)
        self.assert_answers(same_row(65535), one_pane(), FULL, [], FULL)


class TestTooMany(Refusals):
    def test_256_are_allowed(self):
        self.assert_answers(same_row(7), one_pane(255), FULL * 255 + light(7), PAINTINGS, FULL)
        self.assert_answers(same_row(9), one_pane(0, 256), FULL, FULL * 255 + light(9), FULL)
        self.assert_answers(same_row(3), one_pane(255, 256), light(0) * 255 + light(3), FULL * 256, FULL)

    def test_257_are_too_many(self):
        self.assert_answers([-6], one_pane(), FULL * 257, PAINTINGS, FULL)
        self.assert_answers([-6], one_pane(), FULL, FULL * 257, FULL)
        self.assert_answers([-6], one_pane(), FULL * 281, FULL * 281, FULL)

    def test_bytes(self):
        self.assert_answers([-6], run_cartoon() + [0] * 131072, GLASSES, PAINTINGS, FULL)
        self.assert_answers([-6], [0] * 131073, GLASSES, PAINTINGS, FULL)
        self.assert_answers([-5, 1, 0], [0] * 131072, GLASSES, PAINTINGS, FULL)
        self.assert_answers([-5, 1, 0], [0] * 100000, GLASSES, PAINTINGS, FULL)


class TestPanes(Refusals):
    def test_a_pane_that_is_not_there(self):
        for i in (3, 4, 65536, 4294967295):
            self.assert_answers([-2], run_cartoon(), GLASSES, PAINTINGS, FULL, i)
        self.assert_answers([-2], one_pane(), GLASSES, PAINTINGS, FULL, 1)

    def test_the_last_pane(self):
        self.assertEqual(desk.pane(2, run_cartoon(), GLASSES, PAINTINGS, FULL), same_row(8192))


class TestGoesWith(Refusals):
    def test_glass_numbers(self):
        self.assert_answers(same_row(5), one_pane(1), FULL + light(5), [], FULL)
        self.assert_answers([-3, 0], one_pane(2), FULL + light(5), [], FULL)
        self.assert_answers([-3, 0], one_pane(65535), FULL * 256, [], FULL)
        self.assert_answers([-3, 0], one_pane(256), FULL * 256, [], FULL)

    def test_painting_numbers(self):
        paintings = light(5) + light(6)
        self.assert_answers(same_row(65535), one_pane(0, 0), FULL, paintings, FULL)
        self.assert_answers(same_row(5), one_pane(0, 1), FULL, paintings, FULL)
        self.assert_answers(same_row(6), one_pane(0, 2), FULL, paintings, FULL)
        self.assert_answers([-3, 0], one_pane(0, 3), FULL, paintings, FULL)
        self.assert_answers([-3, 0], one_pane(0, 65535), FULL, FULL * 256, FULL)
        self.assert_answers([-3, 0], one_pane(0, 257), FULL, FULL * 256, FULL)
        self.assert_answers([-3, 0], one_pane(0, 1), FULL, [], FULL)

    def test_the_first_such_mark(self):
        def marked(*lights):
            return run_cartoon(marks=[mark[:2] + own for mark, own in zip(RUN_MARKS, lights)])
        for i in range(3):
            self.assert_answers([-3, 0], marked((2, 0), (2, 0), (2, 0)), GLASSES, PAINTINGS, FULL, i)
            self.assert_answers([-3, 1], marked((0, 0), (2, 0), (0, 2)), GLASSES, PAINTINGS, FULL, i)
            self.assert_answers([-3, 1], marked((0, 0), (0, 2), (2, 0)), GLASSES, PAINTINGS, FULL, i)
            self.assert_answers([-3, 2], marked((0, 0), (1, 1), (1, 2)), GLASSES, PAINTINGS, FULL, i)

    def test_of_many_marks(self):
        cartoon = grid(14, 14, 8, glasses=256)
        self.assert_answers([-3, 255], cartoon, FULL * 255, [], FULL)
        self.assert_answers([-3, 30], cartoon, FULL * 30, [], FULL)


class TestOrder(Refusals):
    def test_lights_before_all(self):
        self.assert_answers([-1], NO_CARTOON, FULL * 257, FULL * 257, light(65536), 9)
        self.assert_answers([-1], NO_CARTOON, light(65536) * 257, [], FULL, 9)
        self.assert_answers([-1], [0] * 131073, FULL, [0], FULL, 9)
        self.assert_answers([-1], NO_CARTOON, [0] * 9000, [], FULL, 9)
        self.assert_answers([-1], one_pane(9), [], [], light(65536), 9)

    def test_too_many_before_no_cartoon(self):
        self.assert_answers([-6], NO_CARTOON, FULL * 257, [], FULL, 9)
        self.assert_answers([-6], NO_CARTOON, [], FULL * 257, FULL, 9)
        self.assert_answers([-6], one_pane(0, 300), FULL, FULL * 257, FULL, 9)

    def test_no_cartoon_before_no_pane_and_no_light(self):
        self.assert_answers([-5, 1, 3], NO_CARTOON, [], [], FULL, 9)
        doubled = draw(16, 16, [], [(5, 5, 9, 9), (6, 5, 9, 9)])
        self.assert_answers([-5, 12, 20 + 32 + 16 + 12], doubled, [], [], FULL, 9)

    def test_no_pane_before_no_light(self):
        self.assert_answers([-2], one_pane(9), [], [], FULL, 1)
        self.assert_answers([-3, 0], one_pane(9), [], [], FULL, 0)


if __name__ == "__main__":
    unittest.main()
