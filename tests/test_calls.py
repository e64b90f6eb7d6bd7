"""What the calls answer, and what is then."""

import unittest

from tests.asking import (
    GREATEST, any_table, ask, back, counts, curve, cut, even, last, levels, like, makes, now, picture, replies, reply,
    steps, stretch, table, told, turn, undo, whole)
from tonetables.picture import answers


# Every call, some refused.
EVERY = (picture(5, 6, 7), curve(0, 9, 200, 30), levels(0, 255, 3, 99), even(), stretch(10), turn(), steps(9),
         like(4, 80, 9), cut(40), undo(), picture(300), like(), table(), now(), counts(), back(), told(),
         picture(9, 1), like(2, 3), told(), counts(), now(), table(), back(), undo(), undo())


class Form(unittest.TestCase):
    def test_the_count_then_the_numbers(self):
        self.assertEqual(answers([3]), [1, 256])
        self.assertEqual(answers([0, 0]), [1, 0])
        self.assertEqual(answers([6]), [1, -4])

    def test_calls_one_behind_another(self):
        calls = [0, 3, 5, 6, 7,
                 1, 4, 0, 0, 255, 255,
                 2, 0, 255, 10, 20,
                 3,
                 4, 2,
                 5, 9,
                 6,
                 7, 0,
                 0, 1, 256,
                 1, 1, 8]
        self.assertEqual(answers(calls), [1, 3, 1, 256, 1, 11, 1, 11, 1, 1, 1, 1, 1, 1, 1, 1, 1, -2, 1, -3])

    def test_a_refused_row_is_read_to_its_end(self):
        self.assertEqual(ask(picture(*[3] * 260), turn()), [-1, 256])
        self.assertEqual(ask(curve(*[3] * 520), turn()), [-3, 256])
        self.assertEqual(ask(curve(*[3] * 519), turn()), [-3, 256])
        self.assertEqual(ask(like(*[3] * 260), turn()), [-1, 256])
        # rows of numbers that could be calls
        self.assertEqual(ask(picture(*range(15), 300), like(*range(15), 300), curve(*range(15)), undo()),
                         [-2, -2, -3, -4])

    def test_40_calls(self):
        self.assertEqual(ask(*[picture(1, 2)] * 40), [2] * 40)
        self.assertEqual(ask(*[turn()] * 40), [256] * 12 + [-1] * 28)
        self.assertEqual(ask(*[turn(), undo()] * 20), [256, 0] * 20)
        self.assertEqual(replies(*[back()] * 40), [list(range(256))] * 40)
        self.assertEqual(replies(picture(3, 4), *[like(9)] * 12, *[counts()] * 27)[13:], [[1, 9, 2]] * 27)

    def test_lists_as_long_as_they_may_be(self):
        self.assertEqual(ask(*[curve(*[3] * 520)] * 40), [-3] * 40)
        self.assertEqual(ask(*[curve(*[GREATEST] * 520)] * 40), [-2] * 40)
        self.assertEqual(ask(*[picture(*[3] * 260)] * 40), [-1] * 40)
        self.assertEqual(ask(*[any_table(list(range(256)))] * 13), [256] * 12 + [-1])

    def test_whole_numbers_only(self):
        given = answers([0, 2, 1, 2, 3, 4, 2, 5, 300, 8, 1, 9, 9, 10, 11, 12, 13, 14])
        self.assertEqual({type(number) for number in given}, {int})
        self.assertIs(type(given), list)

    def test_handed_in_stays_and_nothing_is_kept(self):
        calls = [number for call in EVERY for number in call]
        copy = list(calls)
        first = answers(calls)
        self.assertEqual(calls, copy)
        second = answers(calls)
        self.assertEqual(second, first)
        # what was given back is not kept either
        second.clear()
        self.assertEqual(answers(calls), first)
        self.assertEqual(calls, copy)
        self.assertEqual(last(even()), -4)
        self.assertEqual(last(undo()), -4)
        self.assertEqual(reply(now()), [0])
        self.assertEqual(last(turn()), 256)

    def test_not_changed_for_a_while_either(self):
        class Fixed(list):
            def refuse(self, *given):
                raise AssertionError("changed")
            append = extend = insert = pop = remove = clear = sort = reverse = refuse
            __setitem__ = __delitem__ = __iadd__ = __imul__ = refuse

        calls = Fixed([number for call in EVERY for number in call])
        self.assertEqual(answers(calls), answers(list(calls)))


class PictureCall(unittest.TestCase):
    def test_how_many(self):
        self.assertEqual(ask(picture(), picture(0), picture(255, 0, 255)), [0, 1, 3])

    def test_too_many_tones(self):
        self.assertEqual(last(picture(*[0] * 255)), 255)
        self.assertEqual(last(picture(*[0] * 256)), 256)
        self.assertEqual(last(picture(*[0] * 257)), -1)
        self.assertEqual(last(picture(*[0] * 260)), -1)

    def test_a_tone_above_255(self):
        self.assertEqual(last(picture(255)), 1)
        self.assertEqual(last(picture(256)), -2)
        self.assertEqual(last(picture(1, 2, GREATEST)), -2)
        self.assertEqual(last(picture(GREATEST, 2, 1)), -2)

    def test_too_many_is_told_before_above_255(self):
        self.assertEqual(last(picture(*[256] * 257)), -1)
        self.assertEqual(last(picture(*[256] * 256)), -2)

    def test_takes_all_tables_away(self):
        self.assertEqual(ask(cut(9), turn(), picture(1), turn()), [2, 2, 1, 256])
        self.assertEqual(ask(*[turn()] * 12, turn(), picture(), *[turn()] * 12, turn()),
                         [256] * 12 + [-1, 0] + [256] * 12 + [-1])

    def test_makes_its_tones_new(self):
        self.assertEqual(ask(picture(1, 2), picture(), even()), [2, 0, -4])
        self.assertEqual(ask(picture(1, 2, 3), picture(1, 2), even()), [3, 2, 2])

    def test_refused_leaves_tones_and_tables(self):
        for refused in (picture(256), picture(*[1] * 257)):
            self.assertEqual(ask(picture(1, 2, 3), cut(3), refused, even())[3], 2)
            self.assertEqual(last(picture(1, 2, 3), refused, even()), 3)
            self.assertEqual(last(*[turn()] * 12, refused, turn()), -1)


class CurveCall(unittest.TestCase):
    def test_ordinary(self):
        self.assertEqual(last(curve(0, 0, 255, 255)), 256)
        self.assertEqual(last(curve(0, 255, 255, 0)), 256)
        self.assertEqual(last(curve(10, 40, 20, 60)), 11)
        self.assertEqual(makes(curve(10, 40, 20, 60)), list(range(40, 61, 2)))
        self.assertEqual(makes(curve(10, 60, 20, 40)), list(range(40, 61, 2)))

    def test_one_point(self):
        self.assertEqual(last(curve(9, 9)), 1)
        self.assertEqual(last(curve(255, 255)), 1)
        self.assertEqual(last(curve(0, 0)), 1)

    def test_one_point_through_another_table(self):
        self.assertEqual(ask(curve(4, 200), any_table([v % 2 for v in range(256)])), [1, 1])

    def test_near_in_rising_and_falling_curves(self):
        # Tone 1 lies half way: near 1/2 is 1, so it is alike with tone 2, not with tone 0.
        with_2 = any_table([1 if v == 1 else 2 for v in range(256)])
        with_0 = any_table([1 if v == 1 else 0 for v in range(256)])
        for way in ((0, 10, 2, 11), (0, 11, 2, 10)):
            self.assertEqual(ask(with_2, curve(*way)), [2, 1])
            self.assertEqual(ask(with_0, curve(*way)), [2, 2])

    def test_not_pairs(self):
        self.assertEqual(last(curve(1)), -3)
        self.assertEqual(last(curve(1, 2, 3)), -3)
        self.assertEqual(last(curve(1, 2, 3, 4)), 3)

    def test_above_255(self):
        self.assertEqual(last(curve(255, 255)), 1)
        self.assertEqual(last(curve(256, 255)), -2)
        self.assertEqual(last(curve(255, 256)), -2)
        self.assertEqual(last(curve(0, 0, 1, GREATEST)), -2)
        self.assertEqual(last(curve(0, 0, GREATEST, 1)), -2)

    def test_no_points(self):
        self.assertEqual(last(curve()), -3)

    def test_tones_that_do_not_rise(self):
        self.assertEqual(last(curve(5, 1, 6, 2)), 2)
        self.assertEqual(last(curve(5, 1, 5, 2)), -3)
        self.assertEqual(last(curve(5, 1, 5, 1)), -3)
        self.assertEqual(last(curve(5, 1, 4, 2)), -3)
        self.assertEqual(last(curve(1, 1, 2, 1, 3, 1, 3, 1)), -3)
        self.assertEqual(last(curve(1, 1, 1, 1, 2, 1, 3, 1)), -3)

    def test_what_tones_become_may_fall_or_stay(self):
        self.assertEqual(last(curve(1, 7, 2, 7, 3, 5)), 2)

    def test_256_points_and_more(self):
        self.assertEqual(last(any_table(list(range(256)))), 256)
        self.assertEqual(last(curve(*[k // 2 for k in range(512)], 255, 0)), -3)
        self.assertEqual(last(curve(*[k // 2 for k in range(514)])), -2)

    def test_the_refusal_told_first(self):
        self.assertEqual(last(curve(256)), -3)
        self.assertEqual(last(curve(5, 256, 5)), -3)
        self.assertEqual(last(curve(5, 256, 4, 1)), -2)
        self.assertEqual(last(curve(300, 1, 299, 1)), -2)


class LevelsCall(unittest.TestCase):
    def test_ordinary(self):
        self.assertEqual(last(levels(0, 255, 0, 255)), 256)
        self.assertEqual(makes(levels(100, 104, 10, 18)), [10, 12, 14, 16, 18])
        self.assertEqual(makes(levels(100, 104, 18, 10)), [10, 12, 14, 16, 18])
        self.assertEqual(last(levels(3, 200, 7, 7)), 1)

    def test_above_255(self):
        good = [0, 255, 0, 255]
        for k in range(4):
            for number in (256, GREATEST):
                self.assertEqual(last(levels(*good[:k], number, *good[k + 1:])), -2)

    def test_white_not_above_black(self):
        self.assertEqual(last(levels(10, 11, 0, 255)), 2)
        self.assertEqual(last(levels(10, 10, 0, 255)), -3)
        self.assertEqual(last(levels(10, 9, 0, 255)), -3)
        self.assertEqual(last(levels(255, 0, 0, 255)), -3)

    def test_the_refusal_told_first(self):
        self.assertEqual(last(levels(10, 10, 0, 256)), -2)
        self.assertEqual(last(levels(256, 0, 0, 0)), -2)


class TurnStepsCutCalls(unittest.TestCase):
    def test_turn(self):
        self.assertEqual(ask(turn(), turn()), [256, 256])
        self.assertEqual(makes(steps(2), levels(0, 255, 3, 40), turn()), [215, 252])

    def test_steps(self):
        self.assertEqual([last(steps(k)) for k in (2, 3, 10, 255, 256)], [2, 3, 10, 255, 256])
        self.assertEqual(makes(steps(2)), [0, 255])
        self.assertEqual(makes(steps(3)), [0, 128, 255])
        self.assertEqual(makes(steps(6)), [0, 51, 102, 153, 204, 255])

    def test_steps_out_of_bounds(self):
        self.assertEqual([last(steps(k)) for k in (0, 1, 257, GREATEST)], [-2] * 4)

    def test_cut(self):
        self.assertEqual([last(cut(t)) for t in (0, 1, 128, 255)], [1, 2, 2, 2])
        self.assertEqual(makes(cut(77)), [0, 255])

    def test_cut_where(self):
        only = any_table([76 if v else 77 for v in range(256)])
        self.assertEqual([last(only, cut(t)) for t in (76, 77, 78)], [1, 2, 1])

    def test_cut_out_of_bounds(self):
        self.assertEqual([last(cut(t)) for t in (256, GREATEST)], [-2, -2])


class EvenCall(unittest.TestCase):
    def test_ordinary(self):
        self.assertEqual(makes(picture(30, 10, 20, 40), even()), [0, 85, 170, 255])
        self.assertEqual(makes(picture(6, 4, 4, 5, 4), even()), [0, 128, 255])

    def test_all_alike(self):
        self.assertEqual(last(picture(8), even()), 256)
        self.assertEqual(last(picture(8, 8, 8), even()), 256)

    def test_no_tones(self):
        self.assertEqual(last(even()), -4)
        self.assertEqual(last(picture(), even()), -4)
        self.assertEqual(last(turn(), even()), -4)

    def test_by_the_tones_now(self):
        # 10, 20, 30 are 0, 255, 255 now: one behind the least, not two
        self.assertEqual(makes(picture(10, 20, 30), even()), [0, 128, 255])
        self.assertEqual(makes(picture(10, 20, 30), levels(0, 15, 100, 110), even()), [0, 255])
        # all alike now: it stays
        self.assertEqual(last(picture(10, 20, 30), levels(40, 100, 0, 60), even()), 61)

    def test_twice(self):
        # the least becomes 0, and once more nothing changes
        self.assertEqual(ask(picture(3, 3, 5, 9), even(), even()), [4, 3, 3])
        self.assertEqual(makes(picture(3, 3, 5, 9), even(), even()), [0, 128, 255])

    def test_behind_turn(self):
        # 10, 10, 20, 30 are 245, 245, 235, 225 now: the least once, the greatest twice
        self.assertEqual(makes(picture(10, 10, 20, 30), turn(), even()), [0, 85, 255])
        self.assertEqual(makes(picture(10, 10, 20, 30), even()), [0, 128, 255])


class StretchCall(unittest.TestCase):
    def test_ordinary(self):
        self.assertEqual(makes(picture(100, 104, 102), stretch(0)), [0, 64, 128, 191, 255])

    def test_not_below(self):
        self.assertEqual(last(picture(100), stretch(0)), 256)
        self.assertEqual(last(picture(1, 100, 200), stretch(499)), 256)
        self.assertEqual(last(picture(1, 100, 102, 200), stretch(499)), 3)

    def test_part(self):
        tones = (5, 10, 12, 30)
        self.assertEqual(last(picture(*tones), stretch(0)), 26)
        self.assertEqual(last(picture(*tones), stretch(249)), 26)
        self.assertEqual(last(picture(*tones), stretch(250)), 3)
        self.assertEqual(last(picture(*tones), stretch(499)), 3)

    def test_out_of_bounds(self):
        self.assertEqual(last(picture(1, 3), stretch(499)), 3)
        self.assertEqual(last(picture(1, 3), stretch(500)), -2)
        self.assertEqual(last(picture(1, 3), stretch(GREATEST)), -2)

    def test_no_tones(self):
        self.assertEqual(last(stretch(0)), -4)
        self.assertEqual(last(stretch(499)), -4)
        self.assertEqual(last(picture(1), picture(), stretch(7)), -4)

    def test_the_refusal_told_first(self):
        self.assertEqual(last(stretch(500)), -2)

    def test_by_the_tones_now(self):
        # 10, 20, 30 are 100, 101, 102 now
        near = any_table([99 + v // 10 for v in range(256)])
        self.assertEqual(makes(picture(10, 20, 30), near, stretch(0)), [0, 128, 255])
        self.assertEqual(last(picture(10, 20, 30), stretch(0)), 21)
        self.assertEqual(last(picture(10, 20, 30), levels(40, 100, 0, 60), stretch(0)), 61)


class LikeCall(unittest.TestCase):
    def test_ordinary(self):
        self.assertEqual(makes(picture(30, 10, 20, 40), like(100, 200)), [0, 100, 200])
        self.assertEqual(last(picture(30, 10, 20, 40), like(100, 200)), 3)
        self.assertEqual(last(picture(0, 255), like(5)), 1)
        self.assertEqual(last(picture(*range(256)), like(*range(256))), 256)
        self.assertEqual(last(picture(9, 9), like(*range(256))), 2)

    def test_the_whole_table_is_counted(self):
        self.assertEqual(ask(picture(10, 20), cut(15), like(100, 200), steps(2)), [2, 2, 2, 2])
        self.assertEqual(ask(picture(10, 20), like(100, 110), cut(105), like(3, 3)), [2, 3, 2, 1])

    def test_how_many_tones(self):
        self.assertEqual([last(picture(3), like(*[9] * o)) for o in (0, 1, 2, 255, 256, 257, 260)],
                         [-1, 2, 2, 2, 2, -1, -1])

    def test_a_tone_above_255(self):
        self.assertEqual(last(picture(3), like(255)), 2)
        self.assertEqual(last(picture(3), like(256)), -2)
        self.assertEqual(last(picture(3), like(1, 2, GREATEST)), -2)
        self.assertEqual(last(picture(3), like(GREATEST, 2, 1)), -2)

    def test_no_tones(self):
        self.assertEqual(last(like(1)), -4)
        self.assertEqual(last(picture(), like(1)), -4)
        self.assertEqual(last(turn(), like(1)), -4)
        self.assertEqual(ask(picture(1), picture(), like(1), picture(1), like(1)), [1, 0, -4, 1, 2])

    def test_the_refusal_told_first(self):
        many = [256] * 257
        self.assertEqual(last(picture(3), like(*many)), -1)
        self.assertEqual(last(picture(3), like(*many[1:])), -2)
        self.assertEqual(last(like(*many)), -1)
        self.assertEqual(last(like()), -1)
        self.assertEqual(last(like(256)), -2)
        self.assertEqual(last(like(255)), -4)

    def test_with_12_tables(self):
        tables = [turn()] * 12
        self.assertEqual(ask(*tables, like())[-1], -1)
        self.assertEqual(ask(*tables, like(256))[-1], -2)
        self.assertEqual(ask(*tables, like(255))[-1], -4)
        self.assertEqual(ask(picture(3), *tables, like(256))[-1], -2)
        self.assertEqual(ask(picture(3), *tables, like(255))[-1], -1)
        self.assertEqual(ask(picture(3), *tables[:11], like(255))[-1], 2)


class UndoCall(unittest.TestCase):
    def test_no_table(self):
        self.assertEqual(ask(undo(), undo()), [-4, -4])
        self.assertEqual(ask(picture(3), undo()), [1, -4])
        self.assertEqual(ask(turn(), undo(), undo()), [256, 0, -4])
        self.assertEqual(ask(cut(300), undo()), [-2, -4])

    def test_how_many_are_left(self):
        self.assertEqual(ask(*[turn()] * 12, *[undo()] * 13)[12:], [11, 10, 9, 8, 7, 6, 5, 4, 3, 2, 1, 0, -4])

    def test_the_last_one_and_no_other(self):
        tables = [levels(0, 100, 0, 200), turn(), curve(0, 3, 9, 90, 200, 7), steps(40)]
        for k in range(1, 5):
            self.assertEqual(whole(*tables[:k], undo()), whole(*tables[:k - 1]))
            self.assertEqual(whole(*tables, *[undo()] * k), whole(*tables[:4 - k]))

    def test_tables_by_how_often_tones_come(self):
        for call in (even(), stretch(0), like(7, 80)):
            before = [picture(10, 20, 20, 90), turn()]
            self.assertEqual(whole(*before, call, undo()), whole(*before))
            self.assertEqual(reply(*before, call, undo(), now()), [4, 245, 235, 235, 165])
            self.assertEqual(whole(*before, call, undo(), call), whole(*before, call))

    def test_by_the_tones_now_behind_it(self):
        for call in (even(), stretch(0), like(7, 80, 90)):
            self.assertEqual(whole(picture(10, 20, 90), cut(50), undo(), call), whole(picture(10, 20, 90), call))
            self.assertNotEqual(whole(picture(10, 20, 90), cut(50), call), whole(picture(10, 20, 90), call))

    def test_a_13th_table_behind_it(self):
        self.assertEqual(ask(*[turn()] * 12, cut(9), undo(), cut(9), cut(9), undo(), steps(2), turn())[12:],
                         [-1, 11, 2, -1, 11, 2, -1])
        self.assertEqual(whole(*[turn()] * 12, undo(), cut(9)), [255] * 247 + [0] * 9)

    def test_a_new_picture_leaves_no_table(self):
        self.assertEqual(ask(turn(), turn(), picture(4), undo()), [256, 256, 1, -4])
        self.assertEqual(ask(turn(), picture(), undo()), [256, 0, -4])
        # a refused one leaves it
        self.assertEqual(ask(turn(), picture(256), undo(), undo()), [256, -2, 0, -4])


ADDING = (curve(0, 0, 255, 255), levels(0, 255, 0, 255), turn(), steps(256), cut(9), even(), stretch(0),
          like(3, 200))


class Tables(unittest.TestCase):
    def test_the_whole_table_is_counted(self):
        self.assertEqual(ask(steps(16), cut(100), turn(), levels(0, 255, 0, 200)), [16, 2, 2, 2])
        self.assertEqual(ask(cut(100), steps(16)), [2, 2])
        self.assertEqual(ask(steps(4), levels(85, 170, 0, 255)), [4, 2])
        self.assertEqual(ask(levels(85, 170, 0, 255), steps(4)), [86, 4])

    def test_in_the_order_they_came(self):
        # cut first: 0 and 255, which levels makes 0 and 10; levels first: all below the cut
        self.assertEqual(ask(cut(100), levels(0, 255, 0, 10)), [2, 2])
        self.assertEqual(ask(levels(0, 255, 0, 10), cut(100)), [11, 1])

    def test_12_tables(self):
        for call in ADDING:
            many = [turn()] * 11
            self.assertGreater(last(picture(1, 200), *many, call), 0)
            self.assertEqual(ask(picture(1, 200), *many, turn(), call, call)[-3:], [256, -1, -1])

    def test_a_table_that_changes_nothing_is_one_too(self):
        for call in (even(), stretch(0)):
            self.assertEqual(ask(picture(8), *[call] * 13), [1] + [256] * 12 + [-1])
        every = list(range(256))
        self.assertEqual(ask(picture(*every), *[like(*every)] * 13, undo()), [256] * 13 + [-1, 11])

    def test_other_refusals_are_told_before_12_tables(self):
        many = [turn()] * 12
        refused = ((curve(1), -3), (curve(256, 0), -2), (curve(), -3), (curve(2, 0, 1, 0), -3),
                   (levels(0, 1, 2, 256), -2), (levels(1, 1, 2, 2), -3), (steps(1), -2), (steps(257), -2),
                   (cut(256), -2), (even(), -4), (stretch(500), -2), (stretch(499), -4),
                   (like(), -1), (like(*[256] * 257), -1), (like(256), -2), (like(255), -4))
        for call, number in refused:
            self.assertEqual(last(*many, call), number)

    def test_picture_is_not_refused_with_12_tables(self):
        self.assertEqual(ask(*[turn()] * 12, picture(4, 5))[-1], 2)

    def left(self, *calls):
        """All that can be seen behind the calls, down to the third table from the last."""
        asking = [table(), now(), counts(), back(), told()]
        return replies(*calls, *asking, undo(), table(), undo(), table(), undo(), *asking)[len(calls):]

    def test_refused_leaves_all_as_it_was(self):
        refused = (curve(1), curve(256, 0), curve(), curve(2, 0, 1, 0), levels(0, 1, 2, 256), levels(1, 1, 2, 2),
                   steps(0), steps(257), cut(256), stretch(500), picture(256), picture(*[0] * 257),
                   like(), like(*[0] * 257), like(256))
        for call in refused:
            before = [picture(10, 20, 30), levels(0, 25, 100, 110), turn()]
            self.assertLess(last(*before, call), 0)
            self.assertEqual(self.left(*before, call), self.left(*before))
            self.assertEqual(makes(*before, call, even()), makes(*before, even()))
            self.assertEqual(ask(*[turn()] * 11, call, turn(), turn())[-2:], [256, -1])

    def test_refused_for_want_of_tones_leaves_all_as_it_was(self):
        for call in (even(), stretch(3), like(9)):
            self.assertEqual(ask(*[turn()] * 11, call, turn(), turn())[-3:], [-4, 256, -1])
            self.assertEqual(self.left(steps(9), call), self.left(steps(9)))

    def test_refused_for_12_tables_leaves_all_as_it_was(self):
        before = [picture(10, 20, 30), *[turn()] * 10, levels(0, 255, 100, 110), steps(90)]
        for call in ADDING:
            self.assertEqual(last(*before, call), -1)
            self.assertEqual(self.left(*before, call), self.left(*before))

    def test_refused_undo_leaves_all_as_it_was(self):
        before = [picture(10, 20, 30)]
        self.assertEqual(last(*before, undo()), -4)
        self.assertEqual(self.left(*before, undo()), self.left(*before))
        self.assertEqual(ask(undo(), undo(), *[turn()] * 13), [-4, -4] + [256] * 12 + [-1])
