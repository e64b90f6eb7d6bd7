"""What table, now, counts, back and told answer."""

import unittest

from tests import words
from tests.asking import (
    any_table, back, counts, curve, cut, even, levels, like, now, picture, replies, reply, steps, stretch, table,
    told, turn, undo, whole)
from tonetables.picture import answers

ALL = list(range(256))
UP_AND_DOWN = curve(0, 100, 100, 200, 200, 0)


class Form(unittest.TestCase):
    def test_the_count_then_the_numbers(self):
        self.assertEqual(answers([10]), [256, *ALL])
        self.assertEqual(answers([11]), [1, 0])
        self.assertEqual(answers([12]), [1, 0])
        self.assertEqual(answers([13]), [256, *ALL])
        self.assertEqual(answers([14]), [2, 1, 256])
        self.assertEqual(answers([0, 3, 9, 7, 9, 11, 12, 14]), [1, 3, 4, 3, 9, 7, 9, 5, 2, 7, 1, 9, 2, 4, 1, 256, 7, 9])

    def test_one_behind_another(self):
        turned = ALL[::-1]
        self.assertEqual(answers([3, 10, 13, 14, 9, 10]),
                         [1, 256, 256, *turned, 256, *turned, 2, 0, 256, 1, 0, 256, *ALL])

    def test_mixed_with_calls_that_add_tables(self):
        # the one that README.md shows
        calls = [0, 4, 30, 10, 20, 40, 6, 2, 0, 255, 10, 20, 11, 9, 14]
        self.assertEqual(answers(calls), [1, 4, 1, 4, 1, 4, 5, 4, 17, 10, 13, 20, 1, 1, 4, 1, 4, 0, 255])

    def test_whole_numbers_only(self):
        given = answers([0, 2, 9, 4, 3, 10, 11, 12, 13, 14, 9, 14])
        self.assertEqual({type(number) for number in given}, {int})

    def test_asking_changes_nothing(self):
        asking = [table(), now(), counts(), back(), told()]
        for before in ([picture(5, 9, 5), turn(), steps(7)], [cut(3)], [picture(8)]):
            once = replies(*before, *asking)[len(before):]
            twice = replies(*before, *asking, *asking)[len(before):]
            self.assertEqual(twice, once + once)

    def test_asking_adds_no_table(self):
        asking = [table(), now(), counts(), back(), told()]
        self.assertEqual(replies(*[turn()] * 11, *asking, turn(), turn())[-2:], [[256], [-1]])

    def test_with_12_tables(self):
        before = [picture(1, 2), *[turn()] * 12]
        self.assertEqual(replies(*before, table(), now(), counts(), back(), told())[-5:],
                         [ALL, [2, 1, 2], [2, 1, 1, 2, 1], ALL, [1, 256, 1, 2]])


class Table(unittest.TestCase):
    def test_no_table(self):
        self.assertEqual(reply(table()), ALL)
        self.assertEqual(reply(picture(4, 4), table()), ALL)

    def test_one_and_several(self):
        self.assertEqual(reply(steps(4), table()), [0] * 64 + [85] * 64 + [170] * 64 + [255] * 64)
        self.assertEqual(reply(steps(4), turn(), table()), [255] * 64 + [170] * 64 + [85] * 64 + [0] * 64)
        self.assertEqual(reply(steps(4), turn(), cut(100), table()), [255] * 128 + [0] * 128)

    def test_a_new_picture_has_none(self):
        self.assertEqual(reply(turn(), picture(5), table()), ALL)


class Now(unittest.TestCase):
    def test_no_tones(self):
        self.assertEqual(reply(now()), [0])
        self.assertEqual(reply(turn(), now()), [0])
        self.assertEqual(reply(picture(3), picture(), now()), [0])

    def test_no_table(self):
        self.assertEqual(reply(picture(5, 3, 5), now()), [3, 5, 3, 5])
        self.assertEqual(reply(picture(*ALL[::-1]), now()), [256, *ALL[::-1]])
        self.assertEqual(reply(picture(5, 3, 5), picture(8), now()), [1, 8])

    def test_one_and_several(self):
        self.assertEqual(reply(picture(5, 3, 5), turn(), now()), [3, 250, 252, 250])
        self.assertEqual(reply(picture(5, 3, 5), turn(), levels(250, 252, 10, 14), now()), [3, 10, 14, 10])
        self.assertEqual(reply(picture(5, 3, 5), turn(), levels(250, 252, 10, 14), cut(14), now()), [3, 0, 255, 0])

    def test_by_how_often_they_come(self):
        self.assertEqual(reply(picture(30, 10, 20, 40), even(), now()), [4, 170, 0, 85, 255])
        self.assertEqual(reply(picture(102, 100, 104), stretch(0), now()), [3, 128, 0, 255])
        self.assertEqual(reply(picture(30, 10, 20), like(7, 8, 9), now()), [3, 9, 7, 8])
        self.assertEqual(reply(picture(30, 10, 20), like(30, 20, 10), now()), [3, 30, 10, 20])

    def test_tones_as_they_were_handed_stay_below(self):
        self.assertEqual(reply(picture(5, 3, 5), cut(0), undo(), now()), [3, 5, 3, 5])


class Counts(unittest.TestCase):
    def test_no_tones(self):
        self.assertEqual(reply(counts()), [0])
        self.assertEqual(reply(cut(0), counts()), [0])
        self.assertEqual(reply(picture(3), picture(), counts()), [0])

    def test_the_least_first(self):
        self.assertEqual(reply(picture(5, 3, 5), counts()), [2, 3, 1, 5, 2])
        self.assertEqual(reply(picture(255, 7, 0, 7, 200), counts()), [4, 0, 1, 7, 2, 200, 1, 255, 1])
        self.assertEqual(reply(picture(5, 3, 5), turn(), counts()), [2, 250, 2, 252, 1])
        self.assertEqual(reply(picture(5, 3, 5), turn(), steps(2), turn(), counts()), [1, 0, 3])

    def test_tones_that_become_alike(self):
        self.assertEqual(reply(picture(1, 2, 3, 4), cut(3), counts()), [2, 0, 2, 255, 2])
        self.assertEqual(reply(picture(1, 2, 3, 4), cut(4), turn(), counts()), [2, 0, 1, 255, 3])
        self.assertEqual(reply(picture(1, 2, 3, 4), cut(0), counts()), [1, 255, 4])

    def test_as_many_as_can_be(self):
        self.assertEqual(reply(picture(*ALL[::-1]), counts()), [256, *[k for v in ALL for k in (v, 1)]])
        self.assertEqual(reply(picture(*[7] * 256), counts()), [1, 7, 256])
        self.assertEqual(reply(picture(*ALL), steps(2), counts()), [2, 0, 128, 255, 128])


class Back(unittest.TestCase):
    def test_no_table(self):
        self.assertEqual(reply(back()), ALL)
        self.assertEqual(reply(picture(4, 4), back()), ALL)

    def test_each_tone_made_once(self):
        self.assertEqual(reply(turn(), back()), ALL[::-1])
        mixed = [(v * 37 + 5) % 256 for v in ALL]
        self.assertEqual(reply(any_table(mixed), back()), [mixed.index(y) for y in ALL])

    def test_one_tone_for_all(self):
        self.assertEqual(reply(curve(9, 99), back()), [0] * 256)
        self.assertEqual(reply(cut(0), back()), [0] * 256)

    def test_rising(self):
        # 0 up to tone 85, 128 up to tone 170, then 255; 64 lies as near to 0 as to 128
        self.assertEqual(reply(steps(3), back()), [0] * 65 + [86] * 127 + [171] * 64)
        # each tone made by several: the least of these
        self.assertEqual(reply(levels(0, 255, 0, 51), back())[:3], [0, 3, 8])
        self.assertEqual(reply(levels(100, 104, 10, 18), back())[:20],
                         [0] * 12 + [101] * 2 + [102] * 2 + [103] * 2 + [104] * 2)

    def test_falling(self):
        # 254 up to tone 127, then 0: 127 lies as near to both, and tone 0 is the least
        self.assertEqual(reply(cut(128), levels(0, 255, 254, 0), back()), [128] * 127 + [0] * 129)
        # 0 up to tone 127, then 254
        self.assertEqual(reply(cut(128), levels(0, 255, 0, 254), back()), [0] * 128 + [128] * 128)
        self.assertEqual(reply(steps(3), turn(), back()), [171] * 64 + [86] * 127 + [0] * 65)

    def test_neither_rising_nor_falling(self):
        # up: 100, 101 .. 200 at tone 100; down: 198, 196 .. 0 at tone 200
        given = reply(UP_AND_DOWN, back())
        self.assertEqual([given[y] for y in (0, 1, 2, 3, 96, 97, 98, 99, 100, 101, 150, 198, 199, 200, 201, 255)],
                         [200, 199, 199, 198, 152, 151, 151, 0, 0, 1, 50, 98, 99, 100, 100, 100])

    def test_the_least_of_several_far_apart(self):
        # 5 and 7 lie as near to 6: whichever stands first
        self.assertEqual(reply(any_table([9, 7, 5] + [200] * 253), back())[5:9], [2, 1, 1, 0])
        self.assertEqual(reply(any_table([9, 5, 7] + [200] * 253), back())[5:9], [1, 1, 2, 0])
        self.assertEqual(reply(any_table([200] * 253 + [7, 5, 7]), back())[:8], [254] * 6 + [253] * 2)

    def test_several_tables(self):
        self.assertEqual(reply(steps(3), turn(), turn(), back()), reply(steps(3), back()))
        self.assertEqual(reply(levels(0, 100, 0, 200), cut(100), back()), [0] * 128 + [50] * 128)

    def test_nothing_is_nearer(self):
        for calls in ([UP_AND_DOWN], [steps(7)], [UP_AND_DOWN, steps(31)], [levels(3, 99, 240, 17), turn()],
                      [picture(1, 1, 2, 50, 90, 91), even()], [picture(7, 80, 9), turn(), like(4, 90, 3, 200)]):
            self.assertEqual(reply(*calls, back()), words.taken_back(whole(*calls)))


class Told(unittest.TestCase):
    def test_no_table(self):
        self.assertEqual(reply(told()), [1, 256])
        self.assertEqual(reply(picture(), told()), [1, 256])
        self.assertEqual(reply(picture(9, 5, 7), told()), [1, 256, 5, 9])

    def test_rising(self):
        self.assertEqual(reply(levels(0, 255, 10, 20), told()), [1, 11])
        self.assertEqual(reply(steps(9), told()), [1, 9])
        self.assertEqual(reply(turn(), turn(), told()), [1, 256])

    def test_alike(self):
        self.assertEqual(reply(curve(9, 99), told()), [1, 1])
        self.assertEqual(reply(picture(3, 200), curve(9, 99), told()), [1, 1, 99, 99])

    def test_falling(self):
        self.assertEqual(reply(turn(), told()), [0, 256])
        self.assertEqual(reply(UP_AND_DOWN, told()), [0, len(set(whole(UP_AND_DOWN)))])
        self.assertEqual(reply(steps(4), turn(), told()), [0, 4])

    def test_falling_at_a_single_place(self):
        for k in range(1, 256):
            self.assertEqual(reply(any_table([9] * k + [8] * (256 - k)), told()), [0, 2])
            self.assertEqual(reply(any_table([8] * k + [9] * (256 - k)), told()), [1, 2])
        self.assertEqual(reply(any_table([1, 0, *ALL[2:]]), told()), [0, 256])
        self.assertEqual(reply(any_table([*ALL[:254], 255, 254]), told()), [0, 256])
        self.assertEqual(reply(any_table([1, 1, *ALL[2:]]), told()), [1, 255])
        self.assertEqual(reply(any_table([*ALL[:254], 254, 254]), told()), [1, 255])

    def test_the_whole_table_counts(self):
        # falls only where the one ahead makes no tone
        falls = any_table([9 if v == 100 else v for v in ALL])
        self.assertEqual(reply(falls, told())[0], 0)
        self.assertEqual(reply(levels(0, 255, 0, 99), falls, told()), [1, 100])
        self.assertEqual(reply(turn(), cut(128), turn(), told()), [1, 2])

    def test_least_and_greatest_now(self):
        self.assertEqual(reply(picture(9, 5, 7), turn(), told()), [0, 256, 246, 250])
        self.assertEqual(reply(picture(9), told()), [1, 256, 9, 9])
        self.assertEqual(reply(picture(0, 255), told()), [1, 256, 0, 255])
        # up and down: neither the least nor the greatest handed in becomes the greatest
        self.assertEqual(reply(picture(0, 100, 199), UP_AND_DOWN, told())[2:], [2, 200])
        self.assertEqual(reply(picture(30, 10, 20), even(), told()), [1, 3, 0, 255])

    def test_a_new_picture_has_no_table(self):
        self.assertEqual(reply(picture(1), turn(), picture(), told()), [1, 256])
        self.assertEqual(reply(picture(1), turn(), picture(3, 2), told()), [1, 256, 2, 3])
