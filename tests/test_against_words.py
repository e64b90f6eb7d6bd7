"""Many lines of calls, each compared with the document's words written a second time."""

import random
import unittest

from tests.asking import told_apart
from tests.words import Line
from tonetables.picture import answers

ROWS = (0, 1, 8)
EDGES = (0, 1, 2, 254, 255, 255, 256, 257, 499, 500, 4294967295)


def some_tones(chance):
    width = chance.choice((1, 3, 20, 90, 256, 256))
    low = chance.randrange(257 - width)
    return [low + chance.randrange(width) for k in range(chance.choice((0, 1, 2, 5, 6, 40, 41, 97, 256, 256)))]


def some_points(chance):
    tones = sorted(chance.sample(range(256), chance.choice((1, 2, 3, 10, 256))))
    if len(tones) > 1 and chance.random() < 0.6:
        # All tones but a few stay much as they are, so that tables behind it have many tones to meet.
        tones = [0, *[tone for tone in tones if 0 < tone < 255], 255]
        return [number for tone in tones for number in (tone, min(tone + chance.randrange(6), 255))]
    return [number for tone in tones for number in (tone, chance.randrange(256))]


def some_row(chance, call):
    if call in (0, 8):
        row = some_tones(chance)
    elif call == 1:
        row = some_points(chance)
    elif call == 2:
        row = sorted(chance.sample(range(256), 2)) + [chance.randrange(256), chance.randrange(256)]
        if chance.random() < 0.6:
            row = [chance.randrange(20), 255 - chance.randrange(20), *chance.choice(((0, 255), (250, 9), (3, 200)))]
    elif call == 4:
        row = [chance.choice((chance.randrange(2, 257), chance.randrange(200, 257)))]
    elif call == 5:
        row = [chance.randrange(256)]
    elif call == 7:
        row = [chance.randrange(500)]
    else:
        row = []
    return spoiled(chance, call, row) if chance.random() < 0.2 else row


def spoiled(chance, call, row):
    """Now and then a number, or how many there are, is not as told."""
    row = list(row)
    if row:
        row[chance.randrange(len(row))] = chance.choice(EDGES)
    if call in ROWS and chance.random() < 0.3:
        row = row + [chance.choice(EDGES) for k in range(chance.randrange(4))]
    return row


def some_call(chance, place):
    if place == 0:
        return chance.choice((0, 0, 0, 0, 0, 0, 0, 0, 0, 0, 0, 0, 1, 6, 8, 9, 12, 14))
    # Rarely a new picture or an undo, so that lines get to 12 tables.
    if chance.random() < 0.06:
        return chance.choice((0, 9))
    # Few cuts too: behind one there are two tones alone.
    if chance.random() < 0.02:
        return 5
    return chance.choice((1, 2, 3, 4, 6, 7, 8, 10, 11, 12, 13, 14))


class AgainstWords(unittest.TestCase):
    def line(self, chance):
        model = Line()
        calls = []
        expected = []
        for place in range(chance.randrange(1, 41)):
            call = some_call(chance, place)
            row = some_row(chance, call)
            calls.append(call)
            if call in ROWS:
                calls.append(len(row))
            calls.extend(row)
            expected.append(model.answer(call, row))
        handed = list(calls)
        self.assertEqual(told_apart(answers(handed)), expected, calls)
        self.assertEqual(handed, calls)

    def test_many_lines(self):
        chance = random.Random(1)
        for k in range(150):
            self.line(chance)
