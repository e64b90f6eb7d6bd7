"""What each table has for each tone, seen through the call table."""

import unittest

from tests import words
from tests.asking import any_table, curve, cut, even, levels, like, picture, steps, stretch, turn, whole
from tonetables.picture import near

ALL = list(range(256))


class Near(unittest.TestCase):
    def test_nearest_and_of_two_the_greater(self):
        self.assertEqual([near(n, 2) for n in range(6)], [0, 1, 1, 2, 2, 3])
        self.assertEqual([near(n, 3) for n in range(7)], [0, 0, 1, 1, 1, 2, 2])
        self.assertEqual([near(n, 4) for n in range(8)], [0, 0, 1, 1, 1, 1, 2, 2])
        self.assertEqual([near(n, 1) for n in (0, 1, 255)], [0, 1, 255])


class Curve(unittest.TestCase):
    def test_goes_through_its_points(self):
        points = [3, 200, 50, 10, 51, 255, 200, 0, 254, 77]
        table = whole(curve(*points))
        self.assertEqual([table[p] for p in points[::2]], points[1::2])
        self.assertEqual(len(table), 256)

    def test_before_the_first_and_behind_the_last_point(self):
        table = whole(curve(10, 40, 20, 60))
        self.assertEqual(table[:11], [40] * 11)
        self.assertEqual(table[20:], [60] * 236)
        self.assertEqual(table[11], 42)
        self.assertEqual(table[19], 58)

    def test_one_point_makes_one_tone(self):
        for tone in (0, 7, 255):
            self.assertEqual(whole(curve(tone, 99)), [99] * 256)

    def test_points_at_both_ends(self):
        self.assertEqual(whole(curve(0, 0, 255, 255)), ALL)
        self.assertEqual(whole(curve(0, 255, 255, 0)), ALL[::-1])

    def test_rising_of_two_as_near_the_greater(self):
        # 10 + 1/2, 10 + 2/2, 10 + 3/2
        self.assertEqual(whole(curve(0, 10, 4, 12))[:5], [10, 11, 11, 12, 12])

    def test_falling_of_two_as_near_the_greater_way_down(self):
        # 12 - 1/2, 12 - 2/2, 12 - 3/2: near 1/2 is 1, so 11
        self.assertEqual(whole(curve(0, 12, 4, 10))[:5], [12, 11, 11, 10, 10])

    def test_level_between_two_points(self):
        self.assertEqual(whole(curve(5, 9, 8, 9)), [9] * 256)

    def test_every_tone_a_point(self):
        table = [(v * 37 + 5) % 256 for v in range(256)]
        self.assertEqual(whole(any_table(table)), table)


class Levels(unittest.TestCase):
    def test_black_to_the_third_and_white_to_the_fourth(self):
        table = whole(levels(100, 104, 10, 18))
        self.assertEqual(table[98:107], [10, 10, 10, 12, 14, 16, 18, 18, 18])
        self.assertEqual((table[0], table[255]), (10, 18))

    def test_falling(self):
        table = whole(levels(100, 104, 18, 10))
        self.assertEqual(table[98:107], [18, 18, 18, 16, 14, 12, 10, 10, 10])

    def test_ends(self):
        self.assertEqual(whole(levels(0, 255, 0, 255)), ALL)
        self.assertEqual(whole(levels(0, 255, 255, 0)), ALL[::-1])
        self.assertEqual(whole(levels(254, 255, 200, 3)), [200] * 255 + [3])
        self.assertEqual(whole(levels(0, 1, 3, 200)), [3] + [200] * 255)

    def test_half_way_rising_and_falling(self):
        # near 1/2 is 1, up and down
        self.assertEqual(whole(levels(0, 2, 10, 11))[:3], [10, 11, 11])
        self.assertEqual(whole(levels(0, 2, 11, 10))[:3], [11, 10, 10])

    def test_level(self):
        self.assertEqual(whole(levels(3, 200, 7, 7)), [7] * 256)

    def test_next_to_one_another(self):
        self.assertEqual(whole(levels(7, 8, 1, 200)), [1] * 8 + [200] * 248)


class TurnStepsCut(unittest.TestCase):
    def test_turn(self):
        self.assertEqual(whole(turn()), ALL[::-1])

    def test_steps(self):
        self.assertEqual(whole(steps(2)), [0] * 128 + [255] * 128)
        # near 255 / 2 is 128
        self.assertEqual(whole(steps(3)), [0] * 86 + [128] * 85 + [255] * 85)
        self.assertEqual(whole(steps(4)), [0] * 64 + [85] * 64 + [170] * 64 + [255] * 64)
        self.assertEqual(whole(steps(256)), ALL)
        # 254 * 255 / 256 is rounded down
        self.assertEqual(whole(steps(255))[253:], [253, 254, 255])

    def test_steps_all(self):
        for k in range(2, 257):
            table = whole(steps(k))
            self.assertEqual(table, [words.steps(k, v) for v in ALL])
            self.assertEqual(len(set(table)), k)

    def test_cut(self):
        self.assertEqual(whole(cut(0)), [255] * 256)
        self.assertEqual(whole(cut(1)), [0] + [255] * 255)
        self.assertEqual(whole(cut(128)), [0] * 128 + [255] * 128)
        self.assertEqual(whole(cut(255)), [0] * 255 + [255])


class Even(unittest.TestCase):
    def test_all_alike_stays(self):
        self.assertEqual(whole(picture(9), even()), ALL)
        self.assertEqual(whole(picture(0, 0, 0), even()), ALL)
        self.assertEqual(whole(picture(*[255] * 256), even()), ALL)

    def test_below_the_least_is_0(self):
        # n 4, m 1: near 255 / 3, 510 / 3, 765 / 3
        self.assertEqual(whole(picture(30, 10, 20, 40), even()), [0] * 20 + [85] * 10 + [170] * 10 + [255] * 216)

    def test_the_least_often(self):
        # n 5, m 3: near 255 / 2 is 128
        self.assertEqual(whole(picture(6, 4, 4, 5, 4), even()), [0] * 5 + [128] + [255] * 250)

    def test_of_two_as_near_the_greater(self):
        # n 3, m 1: near 255 / 2 is 128
        self.assertEqual(whole(picture(0, 128, 255), even()), [0] * 128 + [128] * 127 + [255])

    def test_by_the_tones_now(self):
        # now 245, 245, 235, 225: the greatest twice
        self.assertEqual(whole(picture(10, 10, 20, 30), turn(), even()),
                         [255] * 11 + [85] * 10 + [0] * 235)
        # all alike now: it stays
        alike = levels(40, 100, 5, 65)
        self.assertEqual(whole(picture(10, 20, 30), alike, even()), whole(alike))

    def test_never_falls(self):
        tones = [(v * v * 7 + 3) % 251 for v in range(256)]
        table = whole(picture(*tones), even())
        self.assertEqual(table, sorted(table))
        self.assertEqual(table, words.even(tones))


class Stretch(unittest.TestCase):
    def test_from_least_to_greatest_with_0(self):
        tones = [100, 104, 102]
        self.assertEqual(whole(picture(*tones), stretch(0)), whole(levels(100, 104, 0, 255)))

    def test_one_tone_stays(self):
        self.assertEqual(whole(picture(100), stretch(0)), ALL)
        self.assertEqual(whole(picture(100, 100), stretch(499)), ALL)

    def test_one_tone_in_the_middle_stays(self):
        self.assertEqual(whole(picture(1, 100, 200), stretch(499)), ALL)
        self.assertEqual(whole(picture(1, 100, 200), stretch(333)), whole(levels(1, 200, 0, 255)))
        self.assertEqual(whole(picture(1, 100, 200), stretch(334)), ALL)

    def test_more_than_the_part_not_as_much(self):
        # of 4 tones 250 / 1000 is 1: one tone is not more than that
        self.assertEqual(whole(picture(5, 10, 20, 30), stretch(249)), whole(levels(5, 30, 0, 255)))
        self.assertEqual(whole(picture(5, 10, 20, 30), stretch(250)), whole(levels(10, 20, 0, 255)))
        self.assertEqual(whole(picture(5, 10, 20, 30), stretch(499)), whole(levels(10, 20, 0, 255)))

    def test_ends(self):
        self.assertEqual(whole(picture(0, 255), stretch(0)), ALL)
        self.assertEqual(whole(picture(0, 255), stretch(499)), ALL)
        self.assertEqual(whole(picture(0, 1), stretch(499)), [0] + [255] * 255)
        self.assertEqual(whole(picture(254, 255), stretch(0)), [0] * 255 + [255])

    def test_by_the_tones_now(self):
        # now 245, 235, 225
        self.assertEqual(whole(picture(10, 20, 30), turn(), stretch(0)), whole(turn(), levels(225, 245, 0, 255)))
        alike = levels(40, 100, 5, 65)
        self.assertEqual(whole(picture(10, 20, 30), alike, stretch(0)), whole(alike))

    def test_each_part(self):
        tones = [(v * v * 5 + v) % 199 + 20 for v in range(97)]
        for m in range(0, 500, 7):
            self.assertEqual(whole(picture(*tones), stretch(m)), words.stretch(tones, m))


class Like(unittest.TestCase):
    def test_parts_just_equal(self):
        # 1/4, 2/4, 3/4, 4/4 of the picture: up to 1/2 the first of two, 2/4 too
        self.assertEqual(whole(picture(10, 20, 30, 40), like(100, 200)), [0] * 10 + [100] * 20 + [200] * 226)
        # 1/3 is 2/6, 2/3 is 4/6
        self.assertEqual(whole(picture(10, 20, 30), like(1, 2, 3, 4, 5, 6)),
                         [0] * 10 + [2] * 10 + [4] * 10 + [6] * 226)

    def test_parts_not_equal(self):
        # 1/3 and 2/3 lie below 1/2 and 2/2
        self.assertEqual(whole(picture(10, 20, 30), like(100, 200)), [0] * 10 + [100] * 10 + [200] * 236)
        # 1/2 lies below 2/3
        self.assertEqual(whole(picture(10, 20), like(100, 150, 200)), [0] * 10 + [150] * 10 + [200] * 236)

    def test_one_tone_longer_or_shorter(self):
        self.assertEqual(whole(picture(*ALL), like(*ALL[:255])), [*ALL[:255], 254])
        self.assertEqual(whole(picture(*ALL[:255]), like(*ALL)), [*ALL[1:], 255])

    def test_like_one_tone(self):
        self.assertEqual(whole(picture(10, 20), like(77)), [0] * 10 + [77] * 246)
        self.assertEqual(whole(picture(10, 20), like(77, 77, 77)), [0] * 10 + [77] * 246)
        self.assertEqual(whole(picture(10, 20), like(0)), [0] * 256)
        self.assertEqual(whole(picture(10, 20), like(255)), [0] * 10 + [255] * 246)

    def test_a_picture_of_one_tone(self):
        self.assertEqual(whole(picture(5), like(1, 2, 3)), [0] * 5 + [3] * 251)
        self.assertEqual(whole(picture(255), like(9)), [0] * 255 + [9])

    def test_below_all_of_the_pictures_tones_0(self):
        self.assertEqual(whole(picture(200, 201), like(50, 60))[:202], [0] * 200 + [50, 60])
        # no tone is below 0
        self.assertEqual(whole(picture(0, 255), like(7, 9)), [7] * 255 + [9])

    def test_often_in_the_picture_and_in_the_other(self):
        self.assertEqual(whole(picture(10, 10, 10, 20), like(1, 2, 3, 4)), [0] * 10 + [3] * 10 + [4] * 236)
        self.assertEqual(whole(picture(10, 20, 30, 40), like(5, 5, 5, 9)), [0] * 10 + [5] * 30 + [9] * 216)

    def test_in_any_order(self):
        self.assertEqual(whole(picture(30, 10, 20), like(6, 2, 4, 1, 5, 3)),
                         whole(picture(10, 20, 30), like(1, 2, 3, 4, 5, 6)))

    def test_like_itself(self):
        self.assertEqual(whole(picture(10, 20, 20, 30), like(10, 20, 20, 30)),
                         [0] * 10 + [10] * 10 + [20] * 10 + [30] * 226)
        self.assertEqual(whole(picture(*ALL), like(*ALL)), ALL)
        tones = [(v * v * 7 + 3) % 251 for v in range(256)]
        table = whole(picture(*tones), like(*tones))
        self.assertEqual([table[tone] for tone in tones], tones)

    def test_by_the_tones_now(self):
        # now 245, 235, 225
        self.assertEqual(whole(picture(10, 20, 30), turn(), like(1, 2, 3)), [3] * 11 + [2] * 10 + [1] * 10 + [0] * 225)
        # now 0, 255, 255: 1/3 is the first, and there's no other up to 254
        self.assertEqual(whole(picture(10, 20, 30), cut(15), like(50, 60, 70)), [50] * 15 + [70] * 241)

    def test_twice(self):
        self.assertEqual(whole(picture(10, 20), like(60, 50), like(80, 70)), [0] * 10 + [70] * 10 + [80] * 236)

    def test_lists_of_all_lengths(self):
        for n, o in ((1, 256), (256, 1), (255, 256), (256, 256), (2, 3), (97, 101), (100, 50)):
            tones = [(v * v * 5 + v) % 199 + 20 for v in range(n)]
            other = [(v * v * 3 + 7 * v) % 241 for v in range(o)]
            self.assertEqual(whole(picture(*tones), like(*other)), words.like(tones, other))


class OneBehindAnother(unittest.TestCase):
    def test_in_the_order_they_came(self):
        self.assertEqual(whole(levels(0, 100, 0, 200), turn()), whole(levels(0, 100, 255, 55)))
        self.assertEqual(whole(cut(100), levels(0, 255, 3, 40)), [3] * 100 + [40] * 156)
        self.assertEqual(whole(levels(0, 255, 3, 40), cut(100)), [0] * 256)

    def test_twice_turned_stays(self):
        self.assertEqual(whole(turn(), turn()), ALL)

    def test_12_tables(self):
        ahead = any_table([min(v + 1, 255) for v in ALL])
        self.assertEqual(whole(*[ahead] * 12), [*ALL[12:], *[255] * 12])
