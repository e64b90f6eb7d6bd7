"""What each table has for each tone."""

import unittest

from tests import words
from tonetables.picture import (
    curve_table, cut_table, even_table, levels_table, near, steps_table, stretch_table, turn_table)

ALL = list(range(256))


class Near(unittest.TestCase):
    def test_nearest_and_of_two_the_greater(self):
        self.assertEqual([near(n, 2) for n in range(6)], [0, 1, 1, 2, 2, 3])
        self.assertEqual([near(n, 3) for n in range(7)], [0, 0, 1, 1, 1, 2, 2])
        self.assertEqual([near(n, 4) for n in range(8)], [0, 0, 1, 1, 1, 1, 2, 2])
        self.assertEqual([near(n, 1) for n in (0, 1, 255)], [0, 1, 255])


class Curve(unittest.TestCase):
    def test_goes_through_its_points(self):
        points = [3, 200, 50, 10, 51, 255, 200, 0, 254, 77]
        table = curve_table(points)
        self.assertEqual([table[p] for p in points[::2]], points[1::2])
        self.assertEqual(len(table), 256)

    def test_before_the_first_and_behind_the_last_point(self):
        table = curve_table([10, 40, 20, 60])
        self.assertEqual(table[:11], [40] * 11)
        self.assertEqual(table[20:], [60] * 236)
        self.assertEqual(table[11], 42)
        self.assertEqual(table[19], 58)

    def test_one_point_makes_one_tone(self):
        for tone in (0, 7, 255):
            self.assertEqual(curve_table([tone, 99]), [99] * 256)

    def test_points_at_both_ends(self):
        self.assertEqual(curve_table([0, 0, 255, 255]), ALL)
        self.assertEqual(curve_table([0, 255, 255, 0]), ALL[::-1])

    def test_rising_of_two_as_near_the_greater(self):
        # 10 + 1/2, 10 + 2/2, 10 + 3/2
        self.assertEqual(curve_table([0, 10, 4, 12])[:5], [10, 11, 11, 12, 12])

    def test_falling_of_two_as_near_the_greater_way_down(self):
        # 12 - 1/2, 12 - 2/2, 12 - 3/2: near 1/2 is 1, so 11
        self.assertEqual(curve_table([0, 12, 4, 10])[:5], [12, 11, 11, 10, 10])

    def test_level_between_two_points(self):
        self.assertEqual(curve_table([5, 9, 8, 9]), [9] * 256)

    def test_every_tone_a_point(self):
        table = [(v * 37 + 5) % 256 for v in range(256)]
        points = [number for point in enumerate(table) for number in point]
        self.assertEqual(curve_table(points), table)


class Levels(unittest.TestCase):
    def test_black_to_the_third_and_white_to_the_fourth(self):
        table = levels_table(100, 104, 10, 18)
        self.assertEqual(table[98:107], [10, 10, 10, 12, 14, 16, 18, 18, 18])
        self.assertEqual((table[0], table[255]), (10, 18))

    def test_falling(self):
        table = levels_table(100, 104, 18, 10)
        self.assertEqual(table[98:107], [18, 18, 18, 16, 14, 12, 10, 10, 10])

    def test_next_to_one_another(self):
        self.assertEqual(levels_table(7, 8, 1, 200), [1] * 8 + [200] * 248)


class TurnStepsCut(unittest.TestCase):
    def test_turn(self):
        self.assertEqual(turn_table(), ALL[::-1])

    def test_steps(self):
        self.assertEqual(steps_table(2), [0] * 128 + [255] * 128)
        # near 255 / 2 is 128
        self.assertEqual(steps_table(3), [0] * 86 + [128] * 85 + [255] * 85)
        self.assertEqual(steps_table(4), [0] * 64 + [85] * 64 + [170] * 64 + [255] * 64)
        self.assertEqual(steps_table(256), ALL)
        # 254 * 255 / 256 is rounded down
        self.assertEqual(steps_table(255)[253:], [253, 254, 255])

    def test_steps_all(self):
        for k in range(2, 257):
            table = steps_table(k)
            self.assertEqual(table, [words.steps(k, v) for v in ALL])
            self.assertEqual(len(set(table)), k)

    def test_cut(self):
        self.assertEqual(cut_table(0), [255] * 256)
        self.assertEqual(cut_table(1), [0] + [255] * 255)
        self.assertEqual(cut_table(128), [0] * 128 + [255] * 128)
        self.assertEqual(cut_table(255), [0] * 255 + [255])


class Even(unittest.TestCase):
    def test_all_alike_stays(self):
        self.assertEqual(even_table([9]), ALL)
        self.assertEqual(even_table([0, 0, 0]), ALL)
        self.assertEqual(even_table([255] * 256), ALL)

    def test_below_the_least_is_0(self):
        # n 4, m 1: near 255 / 3, 510 / 3, 765 / 3
        self.assertEqual(even_table([30, 10, 20, 40]), [0] * 20 + [85] * 10 + [170] * 10 + [255] * 216)

    def test_the_least_often(self):
        # n 5, m 3: near 255 / 2 is 128
        self.assertEqual(even_table([6, 4, 4, 5, 4]), [0] * 5 + [128] + [255] * 250)

    def test_never_falls(self):
        tones = [(v * v * 7 + 3) % 251 for v in range(256)]
        table = even_table(tones)
        self.assertEqual(table, sorted(table))
        self.assertEqual(table, words.even(tones))


class Stretch(unittest.TestCase):
    def test_from_least_to_greatest_with_0(self):
        tones = [100, 104, 102]
        self.assertEqual(stretch_table(tones, 0), levels_table(100, 104, 0, 255))

    def test_one_tone_stays(self):
        self.assertEqual(stretch_table([100], 0), ALL)
        self.assertEqual(stretch_table([100, 100], 499), ALL)

    def test_one_tone_in_the_middle_stays(self):
        self.assertEqual(stretch_table([1, 100, 200], 499), ALL)
        self.assertEqual(stretch_table([1, 100, 200], 333), levels_table(1, 200, 0, 255))
        self.assertEqual(stretch_table([1, 100, 200], 334), ALL)

    def test_more_than_the_part_not_as_much(self):
        # of 4 tones 250 / 1000 is 1: one tone is not more than that
        self.assertEqual(stretch_table([5, 10, 20, 30], 249), levels_table(5, 30, 0, 255))
        self.assertEqual(stretch_table([5, 10, 20, 30], 250), levels_table(10, 20, 0, 255))
        self.assertEqual(stretch_table([5, 10, 20, 30], 499), levels_table(10, 20, 0, 255))

    def test_ends(self):
        self.assertEqual(stretch_table([0, 255], 0), ALL)
        self.assertEqual(stretch_table([0, 255], 499), ALL)
        self.assertEqual(stretch_table([0, 1], 499), [0] + [255] * 255)
        self.assertEqual(stretch_table([254, 255], 0), [0] * 255 + [255])

    def test_each_part(self):
        tones = [(v * v * 5 + v) % 199 + 20 for v in range(97)]
        for m in range(0, 500, 7):
            self.assertEqual(stretch_table(tones, m), words.stretch(tones, m))
