"""The calls on one picture: its tones, and the tables that stand one behind another."""

TONES = 256
GREATEST_TONE = 255
MOST_PICTURE_TONES = 256
MOST_TABLES = 12
MOST_STRETCH = 499

PICTURE = 0
CURVE = 1
LEVELS = 2
TURN = 3
STEPS = 4
CUT = 5
EVEN = 6
STRETCH = 7
LIKE = 8
UNDO = 9
TABLE = 10
NOW = 11
COUNTS = 12
BACK = 13
TOLD = 14

# By the call's number. The calls with a row have no whole numbers beside it.
WHOLE_NUMBERS = (0, 0, 4, 0, 1, 1, 0, 1, 0, 0, 0, 0, 0, 0, 0)

NO_REFUSAL = 0
WRONG_COUNT = -1
OUT_OF_BOUNDS = -2
WRONG_POINTS = -3
NOTHING_THERE = -4


class Picture:
    """The tones as they were handed, and the tables in the order they came."""

    def __init__(self):
        self.tones = []
        self.tables = []

    def tones_now(self):
        return [through(self.tables, tone) for tone in self.tones]

    def whole_table(self):
        return [through(self.tables, tone) for tone in range(TONES)]


def through(tables, tone):
    """What all the tables, one behind another, make of the tone."""
    made = tone
    for table in tables:
        made = table[made]
    return made


def near(n, d):
    """The nearest whole number to n / d, of two as near the greater."""
    return (2 * n + d) // (2 * d)


def unchanged_table():
    return list(range(TONES))


def between(p, a, q, b, v):
    """What v becomes on the way from point (p, a) to point (q, b)."""
    # A fall is counted down from a, so that of two as near the lower tone comes out.
    if b < a:
        return a - near((a - b) * (v - p), q - p)
    return a + near((b - a) * (v - p), q - p)


def curve_table(points):
    """points: of each point its tone, then what that becomes, one behind another."""
    table = [points[1]] * (points[0] + 1)
    for k in range(2, len(points), 2):
        p = points[k - 2]
        a = points[k - 1]
        q = points[k]
        b = points[k + 1]
        table.extend([between(p, a, q, b, v) for v in range(p + 1, q + 1)])
    table.extend([points[-1]] * (TONES - len(table)))
    return table


def levels_table(b, w, o, p):
    return curve_table([b, o, w, p])


def turn_table():
    return [GREATEST_TONE - v for v in range(TONES)]


def steps_table(k):
    return [near(GREATEST_TONE * (v * k // TONES), k - 1) for v in range(TONES)]


def cut_table(t):
    return [GREATEST_TONE if v >= t else 0 for v in range(TONES)]


def how_many_up_to(tones, v):
    return len([tone for tone in tones if tone <= v])


def how_many_from(tones, v):
    return len([tone for tone in tones if tone >= v])


def even_table(tones):
    n = len(tones)
    m = tones.count(min(tones))
    if n == m:
        return unchanged_table()
    # Below the least tone there are none, fewer than m: max keeps these at 0.
    return [near(GREATEST_TONE * max(how_many_up_to(tones, v) - m, 0), n - m) for v in range(TONES)]


def stretch_table(tones, m):
    # Both sides times 1000: more than m n / 1000, without a fraction.
    bound = m * len(tones)
    low = min([v for v in range(TONES) if 1000 * how_many_up_to(tones, v) > bound])
    high = max([v for v in range(TONES) if 1000 * how_many_from(tones, v) > bound])
    if low < high:
        return levels_table(low, high, 0, GREATEST_TONE)
    return unchanged_table()


def like_table(tones, other):
    # Both sides times n and o: u / n isn't more than z / o, without a fraction.
    reached = [how_many_up_to(other, x) * len(tones) for x in range(TONES)]
    return [least_reaching(reached, how_many_up_to(tones, v) * len(other)) for v in range(TONES)]


def least_reaching(reached, bound):
    return min([x for x in range(TONES) if bound <= reached[x]])


def taken_back(table):
    return [least_nearest(table, y) for y in range(TONES)]


def least_nearest(table, y):
    """The least tone whose tone by the table is nearest to y."""
    ways = [abs(made - y) for made in table]
    return ways.index(min(ways))


def one_above_tones(numbers):
    return any([number > GREATEST_TONE for number in numbers])


def rise(tones):
    return all([tones[k - 1] < tones[k] for k in range(1, len(tones))])


def never_falls(table):
    return all([table[v - 1] <= table[v] for v in range(1, len(table))])


def how_many_different(tones):
    return len(set(tones))


def picture_refusal(tones):
    if len(tones) > MOST_PICTURE_TONES:
        return WRONG_COUNT
    if one_above_tones(tones):
        return OUT_OF_BOUNDS
    return NO_REFUSAL


def curve_refusal(points):
    if len(points) % 2 == 1:
        return WRONG_POINTS
    if one_above_tones(points):
        return OUT_OF_BOUNDS
    if len(points) == 0 or not rise(points[::2]):
        return WRONG_POINTS
    return NO_REFUSAL


def levels_refusal(b, w, o, p):
    if one_above_tones([b, w, o, p]):
        return OUT_OF_BOUNDS
    if w <= b:
        return WRONG_POINTS
    return NO_REFUSAL


def steps_refusal(k):
    if k < 2 or k > TONES:
        return OUT_OF_BOUNDS
    return NO_REFUSAL


def cut_refusal(t):
    if t > GREATEST_TONE:
        return OUT_OF_BOUNDS
    return NO_REFUSAL


def empty_refusal(tones):
    if len(tones) == 0:
        return NOTHING_THERE
    return NO_REFUSAL


def stretch_refusal(tones, m):
    if m > MOST_STRETCH:
        return OUT_OF_BOUNDS
    return empty_refusal(tones)


def like_refusal(tones, other):
    if len(other) == 0:
        return WRONG_COUNT
    # What is asked of the other list is then what is asked of a picture's.
    refusal = picture_refusal(other)
    if refusal != NO_REFUSAL:
        return refusal
    return empty_refusal(tones)


def table_refusal(call, numbers, tones):
    """The refusal of a call that adds a table, but for that of too many tables."""
    if call == CURVE:
        return curve_refusal(numbers)
    if call == LEVELS:
        return levels_refusal(numbers[0], numbers[1], numbers[2], numbers[3])
    if call == STEPS:
        return steps_refusal(numbers[0])
    if call == CUT:
        return cut_refusal(numbers[0])
    if call == EVEN:
        return empty_refusal(tones)
    if call == STRETCH:
        return stretch_refusal(tones, numbers[0])
    if call == LIKE:
        return like_refusal(tones, numbers)
    return NO_REFUSAL


def table_of(call, numbers, tones):
    """The table of a call that is not refused; tones are those of the picture now."""
    if call == CURVE:
        return curve_table(numbers)
    if call == LEVELS:
        return levels_table(numbers[0], numbers[1], numbers[2], numbers[3])
    if call == STEPS:
        return steps_table(numbers[0])
    if call == CUT:
        return cut_table(numbers[0])
    if call == EVEN:
        return even_table(tones)
    if call == STRETCH:
        return stretch_table(tones, numbers[0])
    if call == LIKE:
        return like_table(tones, numbers)
    return turn_table()


def take_picture(picture, tones):
    refusal = picture_refusal(tones)
    if refusal != NO_REFUSAL:
        return refusal
    picture.tones = tones
    picture.tables = []
    return len(tones)


def add_table(picture, call, numbers):
    refusal = table_refusal(call, numbers, picture.tones)
    if refusal != NO_REFUSAL:
        return refusal
    if len(picture.tables) >= MOST_TABLES:
        return WRONG_COUNT
    picture.tables.append(table_of(call, numbers, picture.tones_now()))
    return how_many_different(picture.whole_table())


def undo_table(picture):
    if len(picture.tables) == 0:
        return NOTHING_THERE
    picture.tables.pop()
    return len(picture.tables)


def now_answer(tones):
    return [len(tones)] + tones


def counts_answer(tones):
    answer = [how_many_different(tones)]
    for tone in sorted(set(tones)):
        answer.append(tone)
        answer.append(tones.count(tone))
    return answer


def told_answer(table, tones):
    answer = [1 if never_falls(table) else 0, how_many_different(table)]
    if len(tones) > 0:
        answer.append(min(tones))
        answer.append(max(tones))
    return answer


def answer_of(picture, call, numbers):
    if call == PICTURE:
        return [take_picture(picture, numbers)]
    if call == UNDO:
        return [undo_table(picture)]
    if call == TABLE:
        return picture.whole_table()
    if call == NOW:
        return now_answer(picture.tones_now())
    if call == COUNTS:
        return counts_answer(picture.tones_now())
    if call == BACK:
        return taken_back(picture.whole_table())
    if call == TOLD:
        return told_answer(picture.whole_table(), picture.tones_now())
    return [add_table(picture, call, numbers)]


def has_row(call):
    return call in (PICTURE, CURVE, LIKE)


def numbers_start(calls, place):
    """Where the numbers begin of the call that stands at place."""
    if has_row(calls[place]):
        return place + 2
    return place + 1


def numbers_end(calls, place):
    """Where the call that stands at place ends, and the next one begins."""
    if has_row(calls[place]):
        return place + 2 + calls[place + 1]
    return place + 1 + WHOLE_NUMBERS[calls[place]]


def answers(calls):
    """The answers to all calls: of each how many numbers, then these."""
    picture = Picture()
    answered = []
    place = 0
    while place < len(calls):
        end = numbers_end(calls, place)
        # A slice is a copy: what the picture keeps is not the list that was handed in.
        answer = answer_of(picture, calls[place], calls[numbers_start(calls, place):end])
        answered.append(len(answer))
        answered.extend(answer)
        place = end
    return answered
