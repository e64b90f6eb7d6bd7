"""The document's words, written down a second time by fractions, to compare with."""

from collections import Counter
from fractions import Fraction
from math import floor


def near(value):
    low = floor(value)
    return low if value - low < low + 1 - value else low + 1


def curve(points, v):
    pairs = list(zip(points[::2], points[1::2]))
    if v <= pairs[0][0]:
        return pairs[0][1]
    if v >= pairs[-1][0]:
        return pairs[-1][1]
    for (p, a), (q, b) in zip(pairs, pairs[1:]):
        if p <= v <= q:
            if b >= a:
                return a + near(Fraction((b - a) * (v - p), q - p))
            return a - near(Fraction((a - b) * (v - p), q - p))
    raise AssertionError("between no two points")


def steps(k, v):
    return near(Fraction(255 * floor(Fraction(v * k, 256)), k - 1))


def even(tones):
    """The whole table, so that what holds for all tones is found once."""
    m = tones.count(min(tones))
    n = len(tones)
    if n == m:
        return list(range(256))
    below = [sum(tone <= v for tone in tones) for v in range(256)]
    return [0 if u < m else near(Fraction(255 * (u - m), n - m)) for u in below]


def stretch(tones, m):
    part = Fraction(m * len(tones), 1000)
    low = next(x for x in range(256) if sum(tone <= x for tone in tones) > part)
    high = next(x for x in reversed(range(256)) if sum(tone >= x for tone in tones) > part)
    return [curve([low, 0, high, 255], v) if low < high else v for v in range(256)]


def like(tones, other):
    shares = [Fraction(sum(tone <= x for tone in other), len(other)) for x in range(256)]
    least = {}
    table = []
    for v in range(256):
        u = sum(tone <= v for tone in tones)
        if u not in least:
            share = Fraction(u, len(tones))
            least[u] = next(x for x in range(256) if not share > shares[x])
        table.append(least[u])
    return table


def taken_back(table):
    return [min(range(256), key=lambda x: (abs(table[x] - y), x)) for y in range(256)]


class Line:
    """One line's calls: each is its number, and its whole numbers or its row as one list."""

    def __init__(self):
        self.tones = []
        self.tables = []

    def become(self, tone):
        for table in self.tables:
            tone = table[tone]
        return tone

    def whole(self):
        return [self.become(tone) for tone in range(256)]

    def now(self):
        return [self.become(tone) for tone in self.tones]

    def refusal(self, call, row):
        high = any(number > 255 for number in row)
        full = (len(self.tables) == 12, -1)
        none = (not self.tones, -4)
        rules = {
            0: lambda: [(len(row) > 256, -1), (high, -2)],
            1: lambda: [(len(row) % 2 != 0, -3), (high, -2), (not row, -3),
                        (any(a >= b for a, b in zip(row[::2], row[2::2])), -3), full],
            2: lambda: [(high, -2), (row[1] <= row[0], -3), full],
            3: lambda: [full],
            4: lambda: [(row[0] not in range(2, 257), -2), full],
            5: lambda: [(high, -2), full],
            6: lambda: [none, full],
            7: lambda: [(row[0] > 499, -2), none, full],
            8: lambda: [(not row, -1), (len(row) > 256, -1), (high, -2), none, full],
            9: lambda: [(not self.tables, -4)],
        }
        return next((number for holds, number in rules.get(call, list)() if holds), 0)

    def table(self, call, row):
        if call == 6:
            return even(self.now())
        if call == 7:
            return stretch(self.now(), row[0])
        if call == 8:
            return like(self.now(), row)
        rules = {
            1: lambda v: curve(row, v),
            2: lambda v: curve([row[0], row[2], row[1], row[3]], v),
            3: lambda v: 255 - v,
            4: lambda v: steps(row[0], v),
            5: lambda v: 255 if v >= row[0] else 0,
        }
        return [rules[call](v) for v in range(256)]

    def counts(self):
        often = sorted(Counter(self.now()).items())
        return [len(often), *[number for pair in often for number in pair]]

    def told(self):
        whole = self.whole()
        ends = [min(self.now()), max(self.now())] if self.tones else []
        return [int(whole == sorted(whole)), len(set(whole)), *ends]

    def answer(self, call, row):
        refusal = self.refusal(call, row)
        if refusal:
            return [refusal]
        asking = {
            10: self.whole,
            11: lambda: [len(self.tones), *self.now()],
            12: self.counts,
            13: lambda: taken_back(self.whole()),
            14: self.told,
        }
        if call in asking:
            return asking[call]()
        if call == 0:
            self.tones = list(row)
            self.tables = []
            return [len(row)]
        if call == 9:
            self.tables = self.tables[:-1]
            return [len(self.tables)]
        self.tables = [*self.tables, self.table(call, row)]
        return [len(set(self.whole()))]
