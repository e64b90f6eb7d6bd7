"""The document's words, written down a second time by fractions, to compare with."""

from fractions import Fraction
from math import floor


def near(value):
    low = floor(value)
    return low if value - low < low + 1 - value else low + 1


def curve(points, v):
    pairs = list(zip(points[::2], points[1::2]))
    if v <= pairs[0][0]:
        return pairs[0][1]
    if v >= pairs[-1][0]:
        return pairs[-1][1]
    for (p, a), (q, b) in zip(pairs, pairs[1:]):
        if p <= v <= q:
            if b >= a:
                return a + near(Fraction((b - a) * (v - p), q - p))
            return a - near(Fraction((a - b) * (v - p), q - p))
    raise AssertionError("between no two points")


def steps(k, v):
    return near(Fraction(255 * floor(Fraction(v * k, 256)), k - 1))


def even(tones):
    """The whole table, so that what holds for all tones is found once."""
    m = tones.count(min(tones))
    n = len(tones)
    if n == m:
        return list(range(256))
    below = [sum(tone <= v for tone in tones) for v in range(256)]
    return [0 if u < m else near(Fraction(255 * (u - m), n - m)) for u in below]


def stretch(tones, m):
    part = Fraction(m * len(tones), 1000)
    low = next(x for x in range(256) if sum(tone <= x for tone in tones) > part)
    high = next(x for x in reversed(range(256)) if sum(tone >= x for tone in tones) > part)
    return [curve([low, 0, high, 255], v) if low < high else v for v in range(256)]


class Line:
    """One line's calls: each is its number, and its whole numbers or its row as one list."""

    def __init__(self):
        self.tones = []
        self.whole = list(range(256))
        self.count = 0

    def refusal(self, call, row):
        high = any(number > 255 for number in row)
        full = (self.count == 12, -1)
        none = (not self.tones, -4)
        rules = {
            0: lambda: [(len(row) > 256, -1), (high, -2)],
            1: lambda: [(len(row) % 2 != 0, -3), (high, -2), (not row, -3),
                        (any(a >= b for a, b in zip(row[::2], row[2::2])), -3), full],
            2: lambda: [(high, -2), (row[1] <= row[0], -3), full],
            3: lambda: [full],
            4: lambda: [(row[0] not in range(2, 257), -2), full],
            5: lambda: [(high, -2), full],
            6: lambda: [none, full],
            7: lambda: [(row[0] > 499, -2), none, full],
        }
        return next((number for holds, number in rules[call]() if holds), 0)

    def table(self, call, row):
        now = [self.whole[tone] for tone in self.tones]
        if call == 6:
            return even(now)
        if call == 7:
            return stretch(now, row[0])
        rules = {
            1: lambda v: curve(row, v),
            2: lambda v: curve([row[0], row[2], row[1], row[3]], v),
            3: lambda v: 255 - v,
            4: lambda v: steps(row[0], v),
            5: lambda v: 255 if v >= row[0] else 0,
        }
        return [rules[call](v) for v in range(256)]

    def answer(self, call, row):
        refusal = self.refusal(call, row)
        if refusal:
            return refusal
        if call == 0:
            self.__init__()
            self.tones = list(row)
            return len(row)
        table = self.table(call, row)
        self.whole = [table[tone] for tone in self.whole]
        self.count += 1
        return len(set(self.whole))
