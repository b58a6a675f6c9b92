"""apart and weigh: the document's distances, the refusal, each band and weight, the ends of their ranges."""

import inspect
import random
import unittest

from tests import oracle
from tests.cartoons import light
from tests.drawn import Watched, drawn_lights, in_one_list
from windowlight import desk

FULL = light(65535)
DARK = light(0)
LENGTHS = [length for length in range(101) if length != 32]
BANDS_BEYOND = (65536, 65537, 98304, 131071, 2147483647, 2147483648, 4294967294, 4294967295)
WEIGHTS_BEYOND = (32768, 32769, 65535, 65536, 2147483646, 2147483647,
                  -32769, -32770, -65535, -65536, -2147483647, -2147483648)


def padded(*numbers):
    return list(numbers) + [0] * (32 - len(numbers))


def with_one(row, place, number):
    """The row with another number at one place."""
    return row[:place] + [number] + row[place + 1:]


def mixed(seed):
    source = random.Random(seed)
    return [source.randrange(65536) for band in range(32)]


def mixed_weights(seed):
    source = random.Random(seed)
    return [source.randrange(-32768, 32768) for band in range(32)]


class TestApartInTheRun(unittest.TestCase):
    def test_the_nearest_glass(self):
        self.assertEqual(desk.apart(light(32768), light(16000)), [0, 8997306368])

    def test_the_nearest_two(self):
        self.assertEqual(desk.apart(light(16384), light(16000)), [0, 4718592])
        seen = desk.through(light(32768), light(32768))[2:]
        self.assertEqual(desk.apart(seen, light(16000)), [0, 4718592])

    def test_the_panes(self):
        self.assertEqual(desk.apart(light(32768), light(8192)), [0, 32 * 24576 * 24576])
        self.assertEqual(desk.apart(light(65535), light(32768)), [0, 32 * 32767 * 32767])
        self.assertEqual(desk.apart(light(65535), light(8192)), [0, 32 * 57343 * 57343])


class TestInterface(unittest.TestCase):
    def test_arguments(self):
        self.assertEqual(list(inspect.signature(desk.apart).parameters), ["one", "other"])
        self.assertEqual(list(inspect.signature(desk.weigh).parameters), ["weights", "light"])

    def test_by_names(self):
        self.assertEqual(desk.apart(other=light(9), one=light(7)), [0, 128])
        self.assertEqual(desk.weigh(light=light(9), weights=light(-2)), [0, -576])

    def test_numbers_are_ints_in_lists(self):
        answers = [desk.apart(FULL, DARK), desk.apart(FULL, FULL), desk.apart([], FULL), desk.weigh(light(-1), FULL),
                   desk.weigh(DARK, FULL), desk.weigh([], FULL), desk.weigh(FULL, FULL)]
        for answer in answers:
            self.assertIs(type(answer), list)
            self.assertEqual({type(number) for number in answer}, {int})


class TestRefusalOfApart(unittest.TestCase):
    def assert_refused(self, wrong):
        for right in (FULL, DARK, mixed(1)):
            self.assertEqual(desk.apart(wrong, right), [-1])
            self.assertEqual(desk.apart(right, wrong), [-1])
        self.assertEqual(desk.apart(wrong, wrong), [-1])

    def test_any_length_but_32(self):
        for length in LENGTHS:
            self.assert_refused([0] * length)
            self.assert_refused([65535] * length)
        self.assertEqual(desk.apart([0] * 32, [65535] * 32), [0, 137434759200])

    def test_lengths_that_make_64_together(self):
        self.assertEqual(desk.apart([], [0] * 64), [-1])
        self.assertEqual(desk.apart([0] * 31, [0] * 33), [-1])
        self.assertEqual(desk.apart([0] * 33, [0] * 31), [-1])

    def test_bands_above_65535(self):
        for number in BANDS_BEYOND:
            self.assert_refused(light(number))
            for place in range(32):
                self.assert_refused(with_one(mixed(2), place, number))

    def test_a_band_below_0(self):
        self.assert_refused(padded(-1))


class TestRefusalOfWeigh(unittest.TestCase):
    def assert_weights_refused(self, wrong):
        for right in (FULL, DARK, mixed(3)):
            self.assertEqual(desk.weigh(wrong, right), [-1])

    def assert_light_refused(self, wrong):
        for right in (light(32767), light(-32768), DARK, mixed_weights(4)):
            self.assertEqual(desk.weigh(right, wrong), [-1])

    def test_any_length_but_32(self):
        for length in LENGTHS:
            for weight in (0, 32767, -32768):
                self.assert_weights_refused([weight] * length)
            for band in (0, 65535):
                self.assert_light_refused([band] * length)
            self.assertEqual(desk.weigh([0] * length, [0] * length), [-1])

    def test_lengths_that_make_64_together(self):
        self.assertEqual(desk.weigh([], [0] * 64), [-1])
        self.assertEqual(desk.weigh([0] * 31, [0] * 33), [-1])
        self.assertEqual(desk.weigh([0] * 33, [0] * 31), [-1])

    def test_weights_beyond_their_range(self):
        for number in WEIGHTS_BEYOND:
            self.assert_weights_refused(light(number))
            for place in range(32):
                self.assert_weights_refused(with_one(mixed_weights(5), place, number))

    def test_bands_above_65535(self):
        for number in BANDS_BEYOND:
            self.assert_light_refused(light(number))
            for place in range(32):
                self.assert_light_refused(with_one(mixed(6), place, number))

    def test_a_band_below_0(self):
        # Right as a weight, but no band.
        self.assert_light_refused(padded(-1))
        self.assert_light_refused(light(-32768))

    def test_a_band_that_is_no_weight(self):
        # Right as a band, but no weight.
        self.assertEqual(desk.weigh(light(32768), light(32768)), [-1])
        self.assertEqual(desk.weigh(FULL, DARK), [-1])
        self.assertEqual(desk.weigh(light(32767), light(32768)), [0, 32 * 32767 * 32768])

    def test_both_wrong(self):
        self.assertEqual(desk.weigh([], []), [-1])
        self.assertEqual(desk.weigh(light(2147483647), light(4294967295)), [-1])
        self.assertEqual(desk.weigh(light(-2147483648), light(65536)), [-1])

    def test_what_is_wrong_does_not_count_less_beside_a_0(self):
        self.assertEqual(desk.weigh(padded(32768), DARK), [-1])
        self.assertEqual(desk.weigh(padded(-32769), DARK), [-1])
        self.assertEqual(desk.weigh(DARK, padded(65536)), [-1])


class TestApart(unittest.TestCase):
    def test_ends(self):
        self.assertEqual(desk.apart(DARK, DARK), [0, 0])
        self.assertEqual(desk.apart(FULL, FULL), [0, 0])
        self.assertEqual(desk.apart(DARK, FULL), [0, 137434759200])
        self.assertEqual(desk.apart(FULL, DARK), [0, 137434759200])
        self.assertEqual(desk.apart([0, 65535] * 16, [65535, 0] * 16), [0, 137434759200])

    def test_each_band_counts_by_its_square(self):
        for place in range(32):
            self.assertEqual(desk.apart(with_one(DARK, place, 65535), DARK), [0, 65535 * 65535])
            self.assertEqual(desk.apart(with_one(light(100), place, 95), light(100)), [0, 25])
            self.assertEqual(desk.apart(with_one(light(100), place, 101), light(100)), [0, 1])

    def test_differences_up_and_down_do_not_make_up_for_one_another(self):
        self.assertEqual(desk.apart([90, 110] * 16, light(100)), [0, 3200])
        self.assertEqual(desk.apart(padded(3, 4), padded(0, 8)), [0, 25])

    def test_bands_are_taken_in_their_order(self):
        upwards = list(range(32))
        self.assertEqual(desk.apart(upwards, upwards[::-1]), [0, 2 * sum(k * k for k in range(1, 32, 2))])

    def test_drawn_lights(self):
        for seed in range(300):
            source = random.Random(seed)
            one, other = drawn_lights(source, 2)
            told = [0, oracle.apart(one, other)]
            self.assertEqual(desk.apart(one, other), told, seed)
            self.assertEqual(desk.apart(other, one), told, seed)
            self.assertEqual(desk.apart(one, one), [0, 0], seed)

    def test_near_and_two_tell_the_same(self):
        for seed in range(100):
            source = random.Random(seed)
            glasses = drawn_lights(source, 6)
            wanted = glasses.pop()
            k, distance = desk.near(in_one_list(glasses), wanted)[1:]
            self.assertEqual(desk.apart(glasses[k], wanted), [0, distance], seed)
            i, j, distance = desk.two(in_one_list(glasses), wanted)[1:]
            self.assertEqual(desk.apart(desk.through(glasses[i], glasses[j])[2:], wanted), [0, distance], seed)


class TestWeigh(unittest.TestCase):
    def test_ends(self):
        self.assertEqual(desk.weigh(light(32767), FULL), [0, 32 * 32767 * 65535])
        self.assertEqual(desk.weigh(light(-32768), FULL), [0, -32 * 32768 * 65535])
        self.assertEqual(desk.weigh(DARK, FULL), [0, 0])
        self.assertEqual(desk.weigh(light(32767), DARK), [0, 0])
        self.assertEqual(desk.weigh(light(-32768), DARK), [0, 0])

    def test_small_sums_below_0_are_no_refusal(self):
        for number in range(-7, 8):
            self.assertEqual(desk.weigh(padded(number), light(1)), [0, number])

    def test_each_weight_goes_with_its_band(self):
        bands = [1000 * k + 7 for k in range(32)]
        for place in range(32):
            for weight in (1, -1, 32767, -32768):
                self.assertEqual(desk.weigh(with_one(DARK, place, weight), bands), [0, weight * bands[place]])

    def test_weights_above_and_below_0_make_up_for_one_another(self):
        self.assertEqual(desk.weigh([5, -5] * 16, light(40000)), [0, 0])
        self.assertEqual(desk.weigh([32767, -32768] * 16, FULL), [0, -16 * 65535])
        self.assertEqual(desk.weigh([-32768, 32767] * 16, [65535, 0] * 16), [0, -16 * 32768 * 65535])

    def test_weights_of_1_tell_the_sum(self):
        self.assertEqual(desk.weigh(light(1), list(range(32))), [0, 496])
        self.assertEqual(desk.weigh(light(-1), list(range(32))), [0, -496])

    def test_drawn_weights(self):
        for seed in range(300):
            source = random.Random(seed)
            own = drawn_lights(source, 1)[0]
            weights = source.choice([mixed_weights(seed), [source.choice([-32768, -1, 0, 1, 32767]) for k in own]])
            self.assertEqual(desk.weigh(weights, own), [0, oracle.weigh(weights, own)], seed)
            opposite = [-max(weight, -32767) for weight in weights]
            back = [-weight for weight in opposite]
            self.assertEqual(desk.weigh(opposite, own)[1], -desk.weigh(back, own)[1], seed)


class TestNothingIsKept(unittest.TestCase):
    CASES = [(desk.apart, mixed(7), mixed(8)), (desk.apart, FULL, DARK), (desk.apart, [], FULL),
             (desk.apart, FULL, light(65536)), (desk.weigh, mixed_weights(9), mixed(10)), (desk.weigh, [], FULL),
             (desk.weigh, light(-32768), FULL), (desk.weigh, light(-32769), FULL), (desk.weigh, DARK, light(65536))]

    def test_what_is_handed_in_stays(self):
        for call, *told in self.CASES:
            handed = [list(part) for part in told]
            answer = call(*handed)
            self.assertEqual(handed, told)
            self.assertEqual(call(*[Watched(part) for part in told]), answer)

    def test_one_list_as_both(self):
        handed = Watched(mixed(11))
        self.assertEqual(desk.apart(handed, handed), [0, 0])
        small = Watched(range(32))
        self.assertEqual(desk.weigh(small, small), [0, sum(k * k for k in range(32))])

    def test_a_second_time_is_as_the_first(self):
        first = [call(*told) for call, *told in self.CASES]
        self.assertEqual([call(*told) for call, *told in reversed(self.CASES)], first[::-1])

    def test_an_answer_is_the_callers_own(self):
        for call, *told in self.CASES:
            first = call(*told)
            kept = list(first)
            first[:] = [-7]
            self.assertEqual(call(*told), kept)


if __name__ == "__main__":
    unittest.main()
