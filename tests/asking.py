"""Writes calls as the interface tells, and reads the answers back."""

from tonetables.picture import answers

GREATEST = 4294967295


def picture(*tones):
    return [0, len(tones), *tones]


def curve(*points):
    return [1, len(points), *points]


def levels(b, w, o, p):
    return [2, b, w, o, p]


def turn():
    return [3]


def steps(k):
    return [4, k]


def cut(t):
    return [5, t]


def even():
    return [6]


def stretch(m):
    return [7, m]


def any_table(table):
    """A curve through all 256 tones: it can be any table."""
    return curve(*[number for point in enumerate(table) for number in point])


def told_apart(given):
    """The answers' list, taken apart into one list for each call."""
    parts = []
    place = 0
    while place < len(given):
        count = given[place]
        part = given[place + 1:place + 1 + count]
        if len(part) != count:
            raise AssertionError("fewer numbers than the count before them tells")
        parts.append(part)
        place += 1 + count
    return parts


def ask(*calls):
    """One number for each call: no call here answers more."""
    parts = told_apart(answers([number for call in calls for number in call]))
    if [len(part) for part in parts] != [1] * len(calls):
        raise AssertionError(f"not one number for each call: {parts}")
    return [part[0] for part in parts]


def last(*calls):
    return ask(*calls)[-1]


def makes(*calls):
    """Which tones the whole table makes, found by answers alone.

    A last table marks one tone: if the others make it among more, two tones are left.
    """
    if last(*calls) == 1:
        raise AssertionError("a whole table of one tone can't be told from another")
    return [x for x in range(256)
            if last(*calls, any_table([255 if v == x else 0 for v in range(256)])) == 2]
