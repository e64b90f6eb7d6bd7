"""Writes calls as the interface tells, and reads the answers back."""

from tonetables.picture import answers

GREATEST = 4294967295


def picture(*tones):
    return [0, len(tones), *tones]


def curve(*points):
    return [1, len(points), *points]


def levels(b, w, o, p):
    return [2, b, w, o, p]


def turn():
    return [3]


def steps(k):
    return [4, k]


def cut(t):
    return [5, t]


def even():
    return [6]


def stretch(m):
    return [7, m]


def like(*tones):
    return [8, len(tones), *tones]


def undo():
    return [9]


def table():
    return [10]


def now():
    return [11]


def counts():
    return [12]


def back():
    return [13]


def told():
    return [14]


def any_table(made):
    """A curve through all 256 tones: it can be any table."""
    return curve(*[number for point in enumerate(made) for number in point])


def told_apart(given):
    """The answers' list, taken apart into one list for each call."""
    parts = []
    place = 0
    while place < len(given):
        count = given[place]
        part = given[place + 1:place + 1 + count]
        if len(part) != count:
            raise AssertionError("fewer numbers than the count before them tells")
        parts.append(part)
        place += 1 + count
    return parts


def replies(*calls):
    """One list of numbers for each call."""
    if not 1 <= len(calls) <= 40:
        raise AssertionError("a line has 1 to 40 calls")
    parts = told_apart(answers([number for call in calls for number in call]))
    if len(parts) != len(calls):
        raise AssertionError(f"{len(parts)} answers to {len(calls)} calls")
    return parts


def reply(*calls):
    return replies(*calls)[-1]


def ask(*calls):
    """One number for each call: for calls that answer no more."""
    parts = replies(*calls)
    if [len(part) for part in parts] != [1] * len(calls):
        raise AssertionError(f"not one number for each call: {parts}")
    return [part[0] for part in parts]


def last(*calls):
    return ask(*calls)[-1]


def whole(*calls):
    """The whole table behind the calls."""
    return reply(*calls, table())


def makes(*calls):
    """Which tones the whole table makes, the least first."""
    return sorted(set(whole(*calls)))
