"""near and two: the document's run, refusals and their order, which of several as near is told, promise 3."""

import inspect
import random
import unittest

from tests import oracle
from tests.cartoons import light
from tests.drawn import Watched, drawn_lights
from windowlight import desk

FULL = light(65535)
RUN_GLASSES = light(65535) + light(32768)
WANTED = light(16000)


def shop(*lights):
    """Glasses as one list, each told by its 32 numbers or by the one number that all its bands have."""
    return [number for told in lights for number in (light(told) if isinstance(told, int) else told)]


def padded(*numbers):
    return list(numbers) + [0] * (32 - len(numbers))


class Searches(unittest.TestCase):
    def assert_both(self, answer, glasses, wanted):
        self.assertEqual(desk.near(glasses, wanted), answer)
        self.assertEqual(desk.two(glasses, wanted), answer)


class TestRun(unittest.TestCase):
    def test_near(self):
        self.assertEqual(desk.near(RUN_GLASSES, WANTED), [0, 1, 8997306368])

    def test_two(self):
        self.assertEqual(desk.two(RUN_GLASSES, WANTED), [0, 1, 1, 4718592])


class TestInterface(unittest.TestCase):
    def test_arguments(self):
        for call in (desk.near, desk.two):
            self.assertEqual(list(inspect.signature(call).parameters), ["glasses", "wanted"])

    def test_by_names(self):
        self.assertEqual(desk.near(wanted=WANTED, glasses=RUN_GLASSES), [0, 1, 8997306368])
        self.assertEqual(desk.two(wanted=WANTED, glasses=RUN_GLASSES), [0, 1, 1, 4718592])

    def test_numbers_are_ints_in_lists(self):
        for glasses, wanted in ((RUN_GLASSES, WANTED), ([], WANTED), (FULL * 257, WANTED), (FULL, []), (FULL, FULL)):
            for call in (desk.near, desk.two):
                answer = call(glasses, wanted)
                self.assertIs(type(answer), list)
                self.assertEqual({type(number) for number in answer}, {int})


class TestRefusals(Searches):
    def test_wanted_is_no_light(self):
        wrong = [[], [0], FULL[:31], FULL + [0], FULL * 2, [0] * 96, [0] * 100, light(65536), light(4294967295),
                 [65536] + [0] * 31, [0] * 31 + [65536], [0] * 15 + [4294967295] + [0] * 16, [-1] + [0] * 31]
        for wanted in wrong:
            self.assert_both([-1], RUN_GLASSES, wanted)

    def test_glasses_are_no_lights_one_behind_another(self):
        wrong = [[0], FULL[:31], FULL + [0], FULL + FULL[:31], RUN_GLASSES[:-1], RUN_GLASSES[1:], [0] * 100,
                 light(65536), light(4294967295), FULL + [0] * 31 + [65536], [65536] + [0] * 63,
                 FULL * 255 + [0] * 31 + [65536], [0] * 31 + [-1]]
        for glasses in wrong:
            self.assert_both([-1], glasses, WANTED)

    def test_any_length_that_is_no_multiple_of_32(self):
        for length in [*range(1, 200), 4097, 8191, 8193, 8223, 8225, 8999, 9000]:
            if length % 32 > 0:
                self.assert_both([-1], [0] * length, WANTED)
        for length in range(101):
            if length != 32:
                self.assert_both([-1], RUN_GLASSES, [0] * length)

    def test_numbers_above_65535(self):
        # Numbers that would be told nearest, or be right, if but their lowest 16 bits were looked at.
        for number in (65536, 65537, 65536 + 16000, 131071, 2147483648, 4294967294, 4294967295):
            for place in (0, 13, 31, 32, 63):
                glasses = list(RUN_GLASSES)
                glasses[place] = number
                self.assert_both([-1], glasses, WANTED)
            for place in (0, 13, 31):
                wanted = list(WANTED)
                wanted[place] = number
                self.assert_both([-1], RUN_GLASSES, wanted)

    def test_both_ends_of_the_range_are_right(self):
        ends = [0, 65535] * 16
        self.assertEqual(desk.near(ends, ends), [0, 0, 0])
        self.assertEqual(desk.two(ends, ends), [0, 0, 0, 0])

    def test_a_wrong_glass_that_is_not_the_nearest(self):
        self.assert_both([-1], shop(16000, 65536), WANTED)

    def test_more_than_256_glasses(self):
        for how_many in (257, 258, 280, 281):
            self.assert_both([-6], FULL * how_many, WANTED)
            self.assert_both([-6], WANTED * how_many, WANTED)

    def test_no_glasses(self):
        self.assert_both([-2], [], WANTED)
        self.assert_both([-2], [], light(0))

    def test_lights_before_too_many(self):
        self.assert_both([-1], FULL * 257, light(65536))
        self.assert_both([-1], FULL * 257, [])
        self.assert_both([-1], FULL * 256 + light(65536), WANTED)
        self.assert_both([-1], light(65536) + FULL * 256, WANTED)
        self.assert_both([-1], FULL * 257 + [0], WANTED)

    def test_lights_before_no_glasses(self):
        self.assert_both([-1], [], light(65536))
        self.assert_both([-1], [], [])
        self.assert_both([-1], [], FULL + [0])


class TestNear(unittest.TestCase):
    def test_one_glass(self):
        self.assertEqual(desk.near(light(0), light(0)), [0, 0, 0])
        self.assertEqual(desk.near(light(7), light(9)), [0, 0, 128])
        self.assertEqual(desk.near(light(9), light(7)), [0, 0, 128])

    def test_as_far_apart_as_can_be(self):
        self.assertEqual(desk.near(light(0), FULL), [0, 0, 137434759200])
        self.assertEqual(desk.near(FULL, light(0)), [0, 0, 137434759200])

    def test_wherever_it_stands(self):
        for k in range(5):
            told = [900, 800, 700, 600, 500]
            told[k] = 101
            self.assertEqual(desk.near(shop(*told), light(100)), [0, k, 32])

    def test_squares_not_differences(self):
        # Differences 6, 32, 31 in all; at the most 6, 1, 31; squares 36, 32, 961.
        self.assertEqual(desk.near(shop(padded(6), 1, padded(31)), light(0)), [0, 1, 32])
        # Differences 5, 32 in all: here the glass with one greater difference is the nearer one.
        self.assertEqual(desk.near(shop(1, padded(5)), light(0)), [0, 1, 25])

    def test_differences_up_and_down_do_not_make_up_for_one_another(self):
        wanted = light(100)
        self.assertEqual(desk.near(shop([90, 110] * 16, 109), wanted), [0, 1, 2592])

    def test_each_band_counts(self):
        for band in range(32):
            wrong = padded()
            wrong[band] = 1
            self.assertEqual(desk.near(shop(wrong, 0), light(0)), [0, 1, 0])
            self.assertEqual(desk.near(wrong, light(0)), [0, 0, 1])

    def test_of_several_as_near_the_lowest_number(self):
        self.assertEqual(desk.near(shop(7, 7, 7), light(7)), [0, 0, 0])
        self.assertEqual(desk.near(shop(50, 7, 7), light(7)), [0, 1, 0])
        self.assertEqual(desk.near(shop(90, 110), light(100)), [0, 0, 3200])
        self.assertEqual(desk.near(shop(110, 90), light(100)), [0, 0, 3200])
        self.assertEqual(desk.near(shop(200, 110, 300, 90, 110), light(100)), [0, 1, 3200])
        # 3 and 4 in two bands are as far as 5 in one.
        self.assertEqual(desk.near(shop(padded(6), padded(5), padded(3, 4), padded(0, 5)), light(0)), [0, 1, 25])
        self.assertEqual(desk.near(shop(padded(6), padded(3, 4), padded(5), padded(0, 5)), light(0)), [0, 1, 25])

    def test_nearer_by_one_alone(self):
        self.assertEqual(desk.near(shop(padded(5, 1), padded(5)), light(0)), [0, 1, 25])
        greatest = [65535] * 31 + [65534]
        self.assertEqual(desk.near(shop(65535, greatest), light(0)), [0, 1, 137434759200 - 131069])

    def test_256_glasses(self):
        glasses = shop(*range(1000, 1256))
        self.assertEqual(desk.near(glasses, light(0)), [0, 0, 32000000])
        self.assertEqual(desk.near(glasses, light(1255)), [0, 255, 0])
        self.assertEqual(desk.near(glasses, light(2000)), [0, 255, 32 * 745 * 745])
        self.assertEqual(desk.near(glasses, light(1128)), [0, 128, 0])
        self.assertEqual(desk.near(light(3) * 256, light(3)), [0, 0, 0])


class TestTwo(unittest.TestCase):
    def test_one_glass_is_taken_twice(self):
        self.assertEqual(desk.two(light(32768), WANTED), [0, 0, 0, 4718592])
        self.assertEqual(desk.two(FULL, FULL), [0, 0, 0, 0])
        self.assertEqual(desk.two(light(0), light(0)), [0, 0, 0, 0])
        self.assertEqual(desk.two(light(0), FULL), [0, 0, 0, 137434759200])
        self.assertEqual(desk.two(FULL, light(0)), [0, 0, 0, 137434759200])

    def test_one_glass_alone_is_no_two(self):
        # 30,000 through itself is 13,733; alone it would be the wanted light.
        self.assertEqual(desk.two(light(30000), light(30000)), [0, 0, 0, 32 * 16267 * 16267])

    def test_a_clear_glass_leaves_the_other_as_it_is(self):
        self.assertEqual(desk.two(shop(65535, 30000), light(30000)), [0, 0, 1, 0])
        self.assertEqual(desk.two(shop(30000, 65535), light(30000)), [0, 0, 1, 0])

    def test_the_nearest_glass_need_not_be_one_of_the_two(self):
        # Wanted 10,000: glass 0 is nearest, but 40,000 by 16,384 is 10,000.
        glasses = shop(9999, 40000, 16384)
        self.assertEqual(desk.near(glasses, light(10000)), [0, 0, 32])
        self.assertEqual(desk.two(glasses, light(10000)), [0, 1, 2, 0])

    def test_wherever_they_stand(self):
        # One lets the lower bands through and the other the upper ones; all the rest are darker than wanted.
        for i in range(6):
            for j in range(i + 1, 6):
                told = [[1000 * (k + 1)] * 32 for k in range(6)]
                told[i] = [65535] * 16 + [20000] * 16
                told[j] = [20000] * 16 + [65535] * 16
                self.assertEqual(desk.two(shop(*told), light(20000)), [0, i, j, 0])

    def test_rounded_to_the_nearest_before_it_is_told_apart(self):
        # 1 by 32,768 is a little more than a half: 1. By 32,767 it is a little less: 0.
        self.assertEqual(desk.two(shop(1, 32768), light(1)), [0, 0, 1, 0])
        self.assertEqual(desk.two(shop(1, 32767), light(1)), [0, 0, 0, 32])
        # Both pairs round to 16,384, though 32,768 by 32,768 is 16,384.25 and the other one nearer to it.
        self.assertEqual(desk.two(shop(32768, 16384, 65535), light(16384)), [0, 0, 0, 0])

    def test_of_several_as_near_the_lowest_i_then_j(self):
        self.assertEqual(desk.two(shop(7, 7, 7), light(0)), [0, 0, 0, 0])
        # Each glass through the clear one is 10 off: i is 0, and then j decides.
        self.assertEqual(desk.two(shop(65535, 40000, 40020), light(40010)), [0, 0, 1, 3200])
        self.assertEqual(desk.two(shop(65535, 40020, 40000), light(40010)), [0, 0, 1, 3200])
        # The clear glass comes last: i decides.
        self.assertEqual(desk.two(shop(40000, 40020, 65535), light(40010)), [0, 0, 2, 3200])
        self.assertEqual(desk.two(shop(40020, 40000, 65535), light(40010)), [0, 0, 2, 3200])

    def test_a_lower_i_goes_before_a_lower_j(self):
        # 16,384 comes of 0 and 3 (clear, 16,384), of 1 and 1 (32,768 twice), of 1 and 2.
        self.assertEqual(desk.two(shop(65535, 32768, 32768, 16384), light(16384)), [0, 0, 3, 0])
        self.assertEqual(desk.two(shop(32768, 65535, 16384, 32768), light(16384)), [0, 0, 0, 0])
        self.assertEqual(desk.two(shop(60000, 65535, 32768, 32768, 16384), light(16384)), [0, 1, 4, 0])

    def test_of_a_glass_that_stands_twice_the_first_is_taken(self):
        clear = [65535] * 16 + [20000] * 16
        other = [20000] * 16 + [65535] * 16
        self.assertEqual(desk.two(shop(0, clear, clear, other, other), light(20000)), [0, 1, 3, 0])
        self.assertEqual(desk.two(shop(0, other, clear, other, clear), light(20000)), [0, 1, 2, 0])

    def test_nearer_by_one_alone(self):
        # Only with the clear glass does the 1 of glass 1 stay: all pairs before are 1 apart or more.
        glasses = shop(padded(65535), padded(65535, 1), 65535)
        self.assertEqual(desk.two(glasses, padded(65535, 1)), [0, 1, 2, 0])
        self.assertEqual(desk.two(glasses[:64], padded(65535, 1)), [0, 0, 0, 1])

    def test_256_glasses(self):
        clear = [65535] * 16 + [20000] * 16
        other = [20000] * 16 + [65535] * 16
        rest = [light(100 + k) for k in range(254)]
        self.assertEqual(desk.two(shop(*rest, clear, other), light(20000)), [0, 254, 255, 0])
        self.assertEqual(desk.two(shop(clear, *rest, other), light(20000)), [0, 0, 255, 0])
        self.assertEqual(desk.two(shop(*rest, 0, 65535), FULL), [0, 255, 255, 0])
        self.assertEqual(desk.two(light(3) * 256, light(3)), [0, 0, 0, 288])


class TestNothingIsKept(unittest.TestCase):
    CASES = {
        "answer": (RUN_GLASSES, WANTED),
        "another": (shop(9999, 40000, 16384), light(10000)),
        "many": (shop(*range(40)), light(3)),
        "no light": (RUN_GLASSES, light(65536)),
        "no glasses": ([], WANTED),
        "too many": (FULL * 257, WANTED),
    }

    def test_what_is_handed_in_stays(self):
        for name, told in self.CASES.items():
            for call in (desk.near, desk.two):
                handed = [list(part) for part in told]
                call(*handed)
                self.assertEqual(handed, [list(part) for part in told], name)

    def test_what_is_handed_in_is_not_changed_for_a_while_either(self):
        for name, told in self.CASES.items():
            for call in (desk.near, desk.two):
                self.assertEqual(call(Watched(told[0]), Watched(told[1])), call(*told), name)

    def test_a_second_time_is_as_the_first(self):
        for name, told in self.CASES.items():
            for call in (desk.near, desk.two):
                first = call(*told)
                for other in self.CASES.values():
                    desk.near(*other)
                    desk.two(*other)
                self.assertEqual(call(*told), first, name)

    def test_an_answer_is_the_callers_own(self):
        for name, told in self.CASES.items():
            for call in (desk.near, desk.two):
                first = call(*told)
                kept = list(first)
                first[:] = [-7]
                self.assertEqual(call(*told), kept, name)


def drawn(seed, most=14):
    """Glasses, as a list of lights, and a wanted light."""
    source = random.Random(seed)
    lights = drawn_lights(source, source.randrange(2, most + 1))
    wanted = lights.pop()
    if source.randrange(4) == 0:
        lights = [source.choice(lights) for k in lights]
    return lights, wanted


class TestPromise3(unittest.TestCase):
    SEEDS = range(300)

    def test_the_drawings_are_of_all_kinds(self):
        several = 0
        for seed in self.SEEDS:
            glasses, wanted = drawn(seed)
            distances = [oracle.apart(glass, wanted) for glass in glasses]
            several += distances.count(min(distances)) > 1
        self.assertGreater(several, 50)
        self.assertGreater(len(self.SEEDS) - several, 50)

    def test_near_is_as_near_as_any_and_none_before_it_is(self):
        for seed in self.SEEDS:
            glasses, wanted = drawn(seed)
            zero, number, distance = desk.near(shop(*glasses), wanted)
            distances = [oracle.apart(glass, wanted) for glass in glasses]
            self.assertEqual((zero, distance), (0, distances[number]), seed)
            self.assertTrue(all(distance <= other for other in distances), seed)
            self.assertTrue(all(distance < other for other in distances[:number]), seed)

    def test_two_is_as_near_as_any_and_none_before_it_is(self):
        for seed in self.SEEDS:
            glasses, wanted = drawn(seed)
            zero, one, other, distance = desk.two(shop(*glasses), wanted)
            self.assertLessEqual(one, other, seed)
            told = oracle.apart(oracle.through(glasses[one], glasses[other]), wanted)
            self.assertEqual((zero, distance), (0, told), seed)
            for i in range(len(glasses)):
                for j in range(len(glasses)):
                    found = oracle.apart(oracle.through(glasses[i], glasses[j]), wanted)
                    self.assertLessEqual(distance, found, seed)
                    if i <= j and (i, j) < (one, other):
                        self.assertLess(distance, found, seed)

    def test_two_is_no_further_apart_than_the_nearest_glass_twice(self):
        for seed in self.SEEDS:
            glasses, wanted = drawn(seed)
            number = desk.near(shop(*glasses), wanted)[1]
            twice = oracle.apart(oracle.through(glasses[number], glasses[number]), wanted)
            self.assertLessEqual(desk.two(shop(*glasses), wanted)[3], twice, seed)

    def test_against_the_oracle(self):
        for seed in range(1000, 1200):
            glasses, wanted = drawn(seed)
            self.assertEqual(desk.near(shop(*glasses), wanted), [0, *oracle.near(glasses, wanted)], seed)
            self.assertEqual(desk.two(shop(*glasses), wanted), [0, *oracle.two(glasses, wanted)], seed)

    def test_a_full_shop_against_the_oracle(self):
        source = random.Random(7)
        glasses = [[source.randrange(65536) for band in range(32)] for k in range(256)]
        wanted = [source.randrange(65536) for band in range(32)]
        self.assertEqual(desk.near(shop(*glasses), wanted), [0, *oracle.near(glasses, wanted)])
        # The oracle's fractions take their time over all pairs: glasses of a few kinds have but few of them.
        few = [source.choice(glasses[:9]) for k in range(256)]
        first = [k for k, glass in enumerate(few) if glass not in few[:k]]
        i, j, distance = oracle.two([few[k] for k in first], wanted)
        self.assertEqual(desk.two(shop(*few), wanted), [0, first[i], first[j], distance])


if __name__ == "__main__":
    unittest.main()
