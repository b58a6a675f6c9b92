"""The document's run, and the names and arguments of the interface."""

import inspect
import unittest

from tests.cartoons import light, row, run_cartoon, same_row
from windowlight import desk

GLASSES = light(65535) + light(32768)
PAINTINGS = light(16384)


class TestRun(unittest.TestCase):
    def test_panes_by_full_daylight(self):
        seen = [desk.pane(i, run_cartoon(), GLASSES, PAINTINGS, light(65535)) for i in range(3)]
        self.assertEqual(seen, [same_row(65535), same_row(32768), same_row(8192)])

    def test_panes_by_half_daylight(self):
        seen = [desk.pane(i, run_cartoon(), GLASSES, PAINTINGS, light(32768)) for i in range(3)]
        self.assertEqual(seen, [same_row(32768), same_row(16384), same_row(4096)])

    def test_window(self):
        self.assertEqual(desk.all_of(run_cartoon(), GLASSES, PAINTINGS, light(65535)), same_row(26623))

    def test_window_by_half_daylight(self):
        # (300 * 32768 + 200 * 16384 + 700 * 4096) / 1200 = 13312
        self.assertEqual(desk.all_of(run_cartoon(), GLASSES, PAINTINGS, light(32768)), same_row(13312))

    def test_bands_are_apart_from_one_another(self):
        daylight = [2000 * band for band in range(32)]
        self.assertEqual(desk.pane(0, run_cartoon(), GLASSES, PAINTINGS, daylight), row(*daylight))

    def test_numbers_are_ints_in_lists(self):
        for answer in (desk.pane(0, run_cartoon(), GLASSES, PAINTINGS, light(7)),
                       desk.all_of(run_cartoon(), GLASSES, PAINTINGS, light(7)),
                       desk.pane(3, run_cartoon(), GLASSES, PAINTINGS, light(7)),
                       desk.all_of([], GLASSES, PAINTINGS, light(7))):
            self.assertIs(type(answer), list)
            self.assertEqual({type(number) for number in answer}, {int})


class TestInterface(unittest.TestCase):
    def test_arguments(self):
        self.assertEqual(list(inspect.signature(desk.pane).parameters),
                         ["i", "cartoon", "glasses", "paintings", "daylight"])
        self.assertEqual(list(inspect.signature(desk.all_of).parameters),
                         ["cartoon", "glasses", "paintings", "daylight"])

    def test_by_names(self):
        told = {"cartoon": run_cartoon(), "glasses": GLASSES, "paintings": PAINTINGS, "daylight": light(65535)}
        self.assertEqual(desk.pane(i=2, **told), same_row(8192))
        self.assertEqual(desk.all_of(**told), same_row(26623))


class TestNothingIsKept(unittest.TestCase):
    CASES = {
        "answer": (run_cartoon(), GLASSES, PAINTINGS, light(40000)),
        "refused": (run_cartoon(), GLASSES, [], light(40000)),
        "no cartoon": (run_cartoon()[:-1], GLASSES, PAINTINGS, light(40000)),
        "no light": (run_cartoon(), GLASSES, PAINTINGS, light(65536)),
    }

    def calls(self):
        yield lambda told: desk.all_of(*told)
        yield lambda told: desk.pane(2, *told)
        yield lambda told: desk.pane(3, *told)

    def test_what_is_handed_in_stays(self):
        for name, told in self.CASES.items():
            for call in self.calls():
                handed = [list(part) for part in told]
                call(handed)
                self.assertEqual(handed, [list(part) for part in told], name)

    def test_a_second_time_is_as_the_first(self):
        for name, told in self.CASES.items():
            for call in self.calls():
                first = call(told)
                for other in self.CASES.values():
                    desk.all_of(*other)
                self.assertEqual(call(told), first, name)

    def test_an_answer_is_the_callers_own(self):
        told = self.CASES["answer"]
        handed = [list(part) for part in told]
        for call in self.calls():
            first = call(handed)
            kept = list(first)
            for k in range(len(first)):
                first[k] = -7
            self.assertEqual(handed, [list(part) for part in told])
            self.assertEqual(call(handed), kept)

    def test_a_full_light_is_given_back_as_a_copy(self):
        glass = light(65535)
        answer = desk.pane(0, run_cartoon(marks=[(15, 2, 0, 0), (2, 10, 0, 0), (20, 15, 0, 0)]), glass, [], glass)
        self.assertIsNot(answer, glass)
        self.assertEqual(glass, light(65535))


if __name__ == "__main__":
    unittest.main()
