"""Through at its edges, panes' lights, and how the window's light is rounded."""

import unittest
from fractions import Fraction
from math import gcd

from tests.cartoons import draw, light, one_pane, row, run_cartoon, same_row
from windowlight import desk


def padded(numbers):
    return list(numbers) + [0] * (32 - len(numbers))


class TestThrough(unittest.TestCase):
    def through(self, pairs):
        """What is seen of one pane by the first numbers through the second ones, a band each."""
        answer = desk.pane(0, one_pane(), padded([b for a, b in pairs]), [], padded([a for a, b in pairs]))
        self.assertEqual(answer[:2], [0, 32])
        return answer[2:2 + len(pairs)]

    def test_ends(self):
        pairs = [(0, 0), (0, 1), (1, 0), (0, 65535), (65535, 0), (1, 1), (1, 65535), (65535, 1), (65535, 65535),
                 (65535, 65534), (65534, 65534)]
        self.assertEqual(self.through(pairs), [0, 0, 0, 0, 0, 0, 1, 1, 65535, 65534, 65533])

    def test_products_just_below_and_above_a_half(self):
        pairs = [(1, 32767), (1, 32768), (32767, 1), (32768, 1), (2, 16383), (2, 16384), (3, 32768), (3, 32767),
                 (65534, 32767), (65534, 32768), (32768, 32768), (32767, 32767)]
        told = [0, 1, 0, 1, 0, 1, 2, 1, 32767, 32767, 16384, 16383]
        self.assertEqual(self.through(pairs), told)

    def test_products_whose_rest_is_next_to_the_half(self):
        # a * b leaves 32,767 or 32,768 when it is divided by 65,535 = 3 * 5 * 17 * 257.
        below = [(a, 32767 * pow(a, -1, 65535) % 65535) for a in range(2, 65535, 4001) if gcd(a, 65535) == 1]
        self.assertGreater(len(below), 5)
        self.assertEqual(self.through(below), [a * b // 65535 for a, b in below])
        above = [(a, 65535 - b) for a, b in below]
        self.assertEqual(self.through(above), [a * b // 65535 + 1 for a, b in above])

    def test_nearest_for_many(self):
        for start in range(0, 65536, 2113):
            pairs = [((start + 1999 * k) % 65536, (65535 - start + 4099 * k * k) % 65536) for k in range(32)]
            for (a, b), told in zip(pairs, self.through(pairs)):
                self.assertLess(abs(Fraction(a * b, 65535) - told), Fraction(1, 2))


class TestPaneLight(unittest.TestCase):
    def test_glass_and_painting_are_rounded_before_the_daylight(self):
        # 1 * 32,768 rounds up to 1, and so does 1 by 32,768; at once it would be a quarter, so 0.
        self.assertEqual(desk.pane(0, one_pane(0, 1), light(1), light(32768), light(32768)), same_row(1))
        # Daylight through the glass first would be 24,414, and that by 1 rounds down to 0.
        self.assertEqual(desk.pane(0, one_pane(0, 1), light(40000), light(1), light(40000)), same_row(1))
        # 1 by 1 is 0, though daylight through either leaves 1.
        self.assertEqual(desk.pane(0, one_pane(0, 1), light(1), light(1), light(65535)), same_row(0))

    def test_the_marks_numbers_choose(self):
        glasses = light(65535) + light(100) + light(200)
        paintings = light(65535) + light(6553) + light(0)
        told = {(0, 0): 65535, (1, 0): 100, (2, 0): 200, (1, 1): 100, (1, 2): 10, (2, 2): 20, (2, 3): 0, (0, 2): 6553}
        for (glass, painting), number in told.items():
            cartoon = one_pane(glass, painting)
            self.assertEqual(desk.pane(0, cartoon, glasses, paintings, light(65535)), same_row(number))
            self.assertEqual(desk.all_of(cartoon, glasses, paintings, light(65535)), same_row(number))

    def test_numbers_of_two_bytes(self):
        # Numbers that must not be read with their bytes changed round.
        glasses = light(0) * 255 + light(77)
        paintings = light(0) * 255 + light(65535)
        self.assertEqual(desk.pane(0, one_pane(255, 256), glasses, paintings, light(65535)), same_row(77))

    def test_each_band_by_itself(self):
        glass = [2048 * k for k in range(32)]
        painting = [65535 - 2048 * k for k in range(32)]
        daylight = [65535 if k < 16 else 1000 * k for k in range(32)]
        inner = [round(Fraction(a * b, 65535)) for a, b in zip(glass, painting)]
        told = [round(Fraction(a * b, 65535)) for a, b in zip(daylight, inner)]
        self.assertEqual(desk.pane(0, one_pane(0, 1), glass, painting, daylight), row(*told))
        self.assertEqual(desk.all_of(one_pane(0, 1), glass, painting, daylight), row(*told))


class TestWindowLight(unittest.TestCase):
    def halves(self, cut=8):
        """A window 16 wide that is cut upright: glass 0 to the left, glass 1 to the right."""
        ends = [(cut, 0), (cut, 16)]
        return draw(16, 16, [ends], [(1, 1, 0, 0), (15, 1, 1, 0)], ends)

    def test_rounded_down(self):
        told = {(0, 1): 0, (1, 2): 1, (65535, 65534): 65534, (0, 65535): 32767, (3, 3): 3, (2, 4): 3}
        for (one, other), number in told.items():
            self.assertEqual(desk.all_of(self.halves(), light(one) + light(other), [], light(65535)),
                             same_row(number))

    def test_just_below_a_whole_number(self):
        # A triangle of twice area 16 beside the rest, 496, of 512: all but a small part of 1.
        cartoon = draw(16, 16, [[(2, 0), (0, 8)]], [(1, 1, 0, 0), (9, 9, 1, 0)], [(2, 0), (0, 8)])
        self.assertEqual(desk.all_of(cartoon, light(0) + light(1), [], light(65535)), same_row(0))
        self.assertEqual(desk.all_of(cartoon, light(32) + light(0), [], light(65535)), same_row(1))
        self.assertEqual(desk.all_of(cartoon, light(31) + light(0), [], light(65535)), same_row(0))
        self.assertEqual(desk.all_of(cartoon, light(1) + light(1), [], light(65535)), same_row(1))

    def test_as_near_below_a_whole_number_as_can_be(self):
        # A triangle of twice area 3: 3 * 341 = 1,023 is 2 * 512 less 1.
        ways = [[(0, 0), (2, 1), (1, 2), (0, 0)], [(2, 1), (16, 16)]]
        cartoon = draw(16, 16, ways, [(1, 1, 0, 0), (15, 1, 1, 0), (1, 15, 1, 0)])
        self.assertEqual(desk.all_of(cartoon, light(341) + light(0), [], light(65535)), same_row(1))
        self.assertEqual(desk.all_of(cartoon, light(342) + light(0), [], light(65535)), same_row(2))
        self.assertEqual(desk.all_of(cartoon, light(341) + light(1), [], light(65535)), same_row(2))

    def test_rounded_once_for_the_sum(self):
        # Each pane's own share is below 1; together they are 1.
        cartoon = run_cartoon()
        glasses = light(1) + light(1)
        self.assertEqual(desk.all_of(cartoon, glasses, light(65535), light(65535)), same_row(1))

    def test_largest_window(self):
        most = 1048575
        cartoon = draw(most, most, [[(0, 0), (most, most)]], [(most - 1, 1, 0, 0), (1, most - 1, 1, 0)])
        self.assertEqual(desk.all_of(cartoon, light(65535) + light(65534), [], light(65535)), same_row(65534))
        self.assertEqual(desk.all_of(cartoon, light(65535) * 2, [], light(65535)), same_row(65535))
        self.assertEqual(desk.all_of(cartoon, light(65535) + light(0), [], light(65535)), same_row(32767))

    def test_a_small_pane_of_a_large_window(self):
        # Twice area 9 of 2 * 1,048,575 * 1,048,575: it takes less than 1 from the whole, but rounds it down.
        most = 1048575
        cartoon = draw(most, most, [[(3, 0), (0, 3)]], [(1, 1, 0, 0), (9, 9, 1, 0)], [(3, 0), (0, 3)])
        self.assertEqual(desk.all_of(cartoon, light(65534) + light(65535), [], light(65535)), same_row(65534))
        self.assertEqual(desk.all_of(cartoon, light(65535) + light(0), [], light(65535)), same_row(0))

    def test_a_pane_without_light_counts(self):
        self.assertEqual(desk.all_of(self.halves(4), light(0) + light(65535), [], light(65535)), same_row(49151))
        self.assertEqual(desk.all_of(self.halves(4), light(65535) + light(0), [], light(65535)), same_row(16383))


if __name__ == "__main__":
    unittest.main()
