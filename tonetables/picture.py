"""The calls on one picture: its tones, and the tables that stand one behind another."""

TONES = 256
GREATEST_TONE = 255
MOST_PICTURE_TONES = 256
MOST_TABLES = 12
MOST_STRETCH = 499

PICTURE = 0
CURVE = 1
LEVELS = 2
TURN = 3
STEPS = 4
CUT = 5
EVEN = 6
STRETCH = 7

# By the call's number. Picture and curve have a row in place of whole numbers.
WHOLE_NUMBERS = (0, 0, 4, 0, 1, 1, 0, 1)

NO_REFUSAL = 0
TOO_MANY = -1
OUT_OF_BOUNDS = -2
WRONG_POINTS = -3
NOTHING_THERE = -4


class Picture:
    """The tones as they were handed, and the tables in the order they came."""

    def __init__(self):
        self.tones = []
        self.tables = []

    def tones_now(self):
        return [through(self.tables, tone) for tone in self.tones]

    def whole_table(self):
        return [through(self.tables, tone) for tone in range(TONES)]


def through(tables, tone):
    """What all the tables, one behind another, make of the tone."""
    made = tone
    for table in tables:
        made = table[made]
    return made


def near(n, d):
    """The nearest whole number to n / d, of two as near the greater."""
    return (2 * n + d) // (2 * d)


def unchanged_table():
    return list(range(TONES))


def between(p, a, q, b, v):
    """What v becomes on the way from point (p, a) to point (q, b)."""
    # A fall is counted down from a, so that of two as near the lower tone comes out.
    if b < a:
        return a - near((a - b) * (v - p), q - p)
    return a + near((b - a) * (v - p), q - p)


def curve_table(points):
    """points: of each point its tone, then what that becomes, one behind another."""
    table = [points[1]] * (points[0] + 1)
    for k in range(2, len(points), 2):
        p = points[k - 2]
        a = points[k - 1]
        q = points[k]
        b = points[k + 1]
        table.extend([between(p, a, q, b, v) for v in range(p + 1, q + 1)])
    table.extend([points[-1]] * (TONES - len(table)))
    return table


def levels_table(b, w, o, p):
    return curve_table([b, o, w, p])


def turn_table():
    return [GREATEST_TONE - v for v in range(TONES)]


def steps_table(k):
    return [near(GREATEST_TONE * (v * k // TONES), k - 1) for v in range(TONES)]


def cut_table(t):
    return [GREATEST_TONE if v >= t else 0 for v in range(TONES)]


def how_many_up_to(tones, v):
    return len([tone for tone in tones if tone <= v])


def how_many_from(tones, v):
    return len([tone for tone in tones if tone >= v])


def even_table(tones):
    n = len(tones)
    m = tones.count(min(tones))
    if n == m:
        return unchanged_table()
    # Below the least tone there are none, fewer than m: max keeps these at 0.
    return [near(GREATEST_TONE * max(how_many_up_to(tones, v) - m, 0), n - m) for v in range(TONES)]


def stretch_table(tones, m):
    # Both sides times 1000: more than m n / 1000, without a fraction.
    bound = m * len(tones)
    low = min([v for v in range(TONES) if 1000 * how_many_up_to(tones, v) > bound])
    high = max([v for v in range(TONES) if 1000 * how_many_from(tones, v) > bound])
    if low < high:
        return levels_table(low, high, 0, GREATEST_TONE)
    return unchanged_table()


def one_above_tones(numbers):
    return any([number > GREATEST_TONE for number in numbers])


def rise(tones):
    return all([tones[k - 1] < tones[k] for k in range(1, len(tones))])


def picture_refusal(tones):
    if len(tones) > MOST_PICTURE_TONES:
        return TOO_MANY
    if one_above_tones(tones):
        return OUT_OF_BOUNDS
    return NO_REFUSAL


def curve_refusal(points):
    if len(points) % 2 == 1:
        return WRONG_POINTS
    if one_above_tones(points):
        return OUT_OF_BOUNDS
    if len(points) == 0 or not rise(points[::2]):
        return WRONG_POINTS
    return NO_REFUSAL


def levels_refusal(b, w, o, p):
    if one_above_tones([b, w, o, p]):
        return OUT_OF_BOUNDS
    if w <= b:
        return WRONG_POINTS
    return NO_REFUSAL


def steps_refusal(k):
    if k < 2 or k > TONES:
        return OUT_OF_BOUNDS
    return NO_REFUSAL


def cut_refusal(t):
    if t > GREATEST_TONE:
        return OUT_OF_BOUNDS
    return NO_REFUSAL


def even_refusal(tones):
    if len(tones) == 0:
        return NOTHING_THERE
    return NO_REFUSAL


def stretch_refusal(tones, m):
    if m > MOST_STRETCH:
        return OUT_OF_BOUNDS
    if len(tones) == 0:
        return NOTHING_THERE
    return NO_REFUSAL


def table_refusal(call, numbers, tones):
    """The refusal of a call that adds a table, but for that of too many tables."""
    if call == CURVE:
        return curve_refusal(numbers)
    if call == LEVELS:
        return levels_refusal(numbers[0], numbers[1], numbers[2], numbers[3])
    if call == STEPS:
        return steps_refusal(numbers[0])
    if call == CUT:
        return cut_refusal(numbers[0])
    if call == EVEN:
        return even_refusal(tones)
    if call == STRETCH:
        return stretch_refusal(tones, numbers[0])
    return NO_REFUSAL


def table_of(call, numbers, tones):
    """The table of a call that is not refused; tones are those of the picture now."""
    if call == CURVE:
        return curve_table(numbers)
    if call == LEVELS:
        return levels_table(numbers[0], numbers[1], numbers[2], numbers[3])
    if call == STEPS:
        return steps_table(numbers[0])
    if call == CUT:
        return cut_table(numbers[0])
    if call == EVEN:
        return even_table(tones)
    if call == STRETCH:
        return stretch_table(tones, numbers[0])
    return turn_table()


def take_picture(picture, tones):
    refusal = picture_refusal(tones)
    if refusal != NO_REFUSAL:
        return refusal
    picture.tones = tones
    picture.tables = []
    return len(tones)


def add_table(picture, call, numbers):
    refusal = table_refusal(call, numbers, picture.tones)
    if refusal != NO_REFUSAL:
        return refusal
    if len(picture.tables) >= MOST_TABLES:
        return TOO_MANY
    picture.tables.append(table_of(call, numbers, picture.tones_now()))
    return len(set(picture.whole_table()))


def answer_of(picture, call, numbers):
    if call == PICTURE:
        return [take_picture(picture, numbers)]
    return [add_table(picture, call, numbers)]


def numbers_start(calls, place):
    """Where the numbers begin of the call that stands at place."""
    if calls[place] in (PICTURE, CURVE):
        return place + 2
    return place + 1


def numbers_end(calls, place):
    """Where the call that stands at place ends, and the next one begins."""
    if calls[place] in (PICTURE, CURVE):
        return place + 2 + calls[place + 1]
    return place + 1 + WHOLE_NUMBERS[calls[place]]


def answers(calls):
    """The answers to all calls: of each how many numbers, then these."""
    picture = Picture()
    answered = []
    place = 0
    while place < len(calls):
        end = numbers_end(calls, place)
        # A slice is a copy: what the picture keeps is not the list that was handed in.
        answer = answer_of(picture, calls[place], calls[numbers_start(calls, place):end])
        answered.append(len(answer))
        answered.extend(answer)
        place = end
    return answered
