"""through: the document's run, the refusal, roundings at their edges, promise 1."""

import inspect
import random
import unittest

from tests import oracle
from tests.cartoons import light, row, same_row
from tests.drawn import Watched, drawn_lights
from windowlight import desk

FULL = light(65535)
DARK = light(0)


def mixed(seed):
    source = random.Random(seed)
    return [source.randrange(65536) for band in range(32)]


class TestRun(unittest.TestCase):
    def test_glass_and_painting(self):
        self.assertEqual(desk.through(light(32768), light(16384)), same_row(8192))

    def test_daylight(self):
        self.assertEqual(desk.through(light(32768), light(8192)), same_row(4096))

    def test_a_glass_and_itself(self):
        self.assertEqual(desk.through(light(32768), light(32768)), same_row(16384))


class TestInterface(unittest.TestCase):
    def test_arguments(self):
        self.assertEqual(list(inspect.signature(desk.through).parameters), ["one", "other"])
        self.assertEqual(desk.through(other=light(16384), one=light(32768)), same_row(8192))

    def test_numbers_are_ints_in_lists(self):
        for told in ((FULL, FULL), (DARK, FULL), (mixed(1), mixed(2)), ([], FULL), (FULL, light(65536))):
            answer = desk.through(*told)
            self.assertIs(type(answer), list)
            self.assertEqual({type(number) for number in answer}, {int})


class TestRefusal(unittest.TestCase):
    def assert_refused(self, wrong):
        for right in (FULL, DARK, mixed(3)):
            self.assertEqual(desk.through(wrong, right), [-1])
            self.assertEqual(desk.through(right, wrong), [-1])
        self.assertEqual(desk.through(wrong, wrong), [-1])

    def test_any_length_but_32(self):
        for length in range(101):
            if length != 32:
                self.assert_refused([0] * length)
                self.assert_refused([65535] * length)
        self.assertEqual(desk.through([0] * 32, [0] * 32), same_row(0))

    def test_lengths_that_make_32_together(self):
        self.assertEqual(desk.through([], [0] * 64), [-1])
        self.assertEqual(desk.through([0] * 31, [0] * 33), [-1])
        self.assertEqual(desk.through([0] * 33, [0] * 31), [-1])

    def test_bands_above_65535(self):
        for number in (65536, 65537, 98304, 131071, 2147483647, 2147483648, 4294967294, 4294967295):
            self.assert_refused(light(number))
            for place in range(32):
                wrong = mixed(4)
                wrong[place] = number
                self.assert_refused(wrong)

    def test_a_band_beyond_does_not_count_less_beside_a_dark_one(self):
        self.assertEqual(desk.through([65536] + [0] * 31, DARK), [-1])
        self.assertEqual(desk.through(DARK, [0] * 31 + [4294967295]), [-1])

    def test_a_band_below_0(self):
        self.assert_refused([-1] + [0] * 31)

    def test_both_ends_of_the_range_are_right(self):
        ends = [0, 65535] * 16
        self.assertEqual(desk.through(ends, FULL), row(*ends))
        self.assertEqual(desk.through(ends, ends), row(*ends))
        self.assertEqual(desk.through(ends, ends[1:] + ends[:1]), same_row(0))


class TestRounding(unittest.TestCase):
    def test_next_to_a_half(self):
        # 32,767.5 would be midway, and no product is.
        told = {(1, 32767): 0, (1, 32768): 1, (3, 10922): 0, (3, 10923): 1, (2, 16383): 0, (2, 16384): 1,
                (32767, 32769): 16384, (65534, 65534): 65533, (65534, 65535): 65534, (1, 1): 0, (255, 257): 1,
                (255, 128): 0, (255, 129): 1, (256, 256): 1, (65534, 32767): 32767, (65534, 32768): 32767}
        for (one, other), number in told.items():
            self.assertEqual(desk.through(light(one), light(other)), same_row(number), (one, other))
            self.assertEqual(desk.through(light(other), light(one)), same_row(number), (one, other))

    def test_every_band_through_some(self):
        for other in (1, 2, 3, 32767, 32768, 43691, 65533, 65534):
            for start in range(0, 65536, 32):
                one = list(range(start, start + 32))
                answer = desk.through(one, light(other))
                self.assertEqual(answer[:2], [0, 32])
                for a, number in zip(one, answer[2:], strict=True):
                    self.assertLess(2 * abs(65535 * number - a * other), 65535, (a, other))

    def test_each_band_by_itself(self):
        for band in range(32):
            one = light(0)
            one[band] = 40000
            told = light(0)
            told[band] = 20000
            self.assertEqual(desk.through(one, light(32768)), row(*told))

    def test_against_the_oracle(self):
        for seed in range(300):
            source = random.Random(seed)
            one, other = drawn_lights(source, 2)
            self.assertEqual(desk.through(one, other), row(*oracle.through(one, other)), seed)


class TestPromise1(unittest.TestCase):
    SEEDS = range(300)

    def lights(self):
        for seed in self.SEEDS:
            source = random.Random(seed)
            yield drawn_lights(source, 1)[0], drawn_lights(source, 1)[0]
        yield FULL, DARK
        yield FULL, FULL
        yield DARK, DARK

    def test_either_way_round(self):
        for one, other in self.lights():
            self.assertEqual(desk.through(one, other), desk.through(other, one))

    def test_all_65535_leaves_it(self):
        for one, other in self.lights():
            self.assertEqual(desk.through(one, FULL), row(*one))
            self.assertEqual(desk.through(FULL, other), row(*other))

    def test_all_0_leaves_nothing(self):
        for one, other in self.lights():
            self.assertEqual(desk.through(one, DARK), same_row(0))
            self.assertEqual(desk.through(DARK, other), same_row(0))

    def test_no_band_above_either(self):
        for one, other in self.lights():
            answer = desk.through(one, other)
            self.assertEqual(answer[:2], [0, 32])
            for a, b, number in zip(one, other, answer[2:], strict=True):
                self.assertTrue(0 <= number <= min(a, b))

    def test_every_number_of_a_band(self):
        for start in range(0, 65536, 32):
            one = list(range(start, start + 32))
            self.assertEqual(desk.through(one, FULL), row(*one))
            self.assertEqual(desk.through(one, DARK), same_row(0))


class TestNothingIsKept(unittest.TestCase):
    CASES = [(mixed(5), mixed(6)), (FULL, mixed(7)), (mixed(8), FULL), (FULL, FULL), ([], FULL), (FULL, light(65536))]

    def test_what_is_handed_in_stays(self):
        for told in self.CASES:
            handed = [list(part) for part in told]
            answer = desk.through(*handed)
            self.assertEqual(handed, [list(part) for part in told])
            self.assertEqual(desk.through(*[Watched(part) for part in told]), answer)

    def test_one_list_as_both(self):
        handed = Watched(mixed(9))
        self.assertEqual(desk.through(handed, handed), desk.through(mixed(9), mixed(9)))

    def test_a_second_time_is_as_the_first(self):
        first = [desk.through(*told) for told in self.CASES]
        self.assertEqual([desk.through(*told) for told in reversed(self.CASES)], first[::-1])

    def test_an_answer_is_the_callers_own(self):
        for told in self.CASES:
            handed = [list(part) for part in told]
            first = desk.through(*handed)
            kept = list(first)
            first[:] = [-7] * len(first)
            self.assertEqual(handed, [list(part) for part in told])
            self.assertEqual(desk.through(*handed), kept)


if __name__ == "__main__":
    unittest.main()
