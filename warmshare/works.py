"""Works and their streams, and the text that tells a works."""

from warmshare.errors import NoMeasure, NoRow, WrongWay

FIGURES = "0123456789"
MOST_FIGURES = 10
MOST_GAP = 50
MOST_DEGREE = 200
LEAST_RATE = 1
MOST_RATE = 1000000000
MOST_OF_A_KIND = 12


def read(text):
    rows = text.split("\n")
    gap = read_gap(rows[0])
    hots = []
    colds = []
    for row in rows[1:]:
        words = row.split(" ")
        numbers = numbers_of(words, 3)
        check_place(words[0], hots, colds)
        stream = (numbers[0], numbers[1], numbers[2])
        check_stream(words[0], stream)
        if words[0] == "hot":
            hots.append(stream)
        else:
            colds.append(stream)
    return (gap, hots, colds)


def shown(works):
    gap = works[0]
    rows = [f"gap {gap}"]
    rows.extend(stream_rows("hot", works[1]))
    rows.extend(stream_rows("cold", works[2]))
    return "\n".join(rows)


def stream_rows(kind, streams):
    return [f"{kind} {start} {goal} {rate}" for start, goal, rate in streams]


def read_gap(row):
    words = row.split(" ")
    numbers = numbers_of(words, 1)
    if words[0] != "gap":
        raise NoRow(f"the first row is the gap's, not {row!r}")
    check_within(numbers[0], 0, MOST_GAP)
    return numbers[0]


def numbers_of(words, count):
    numerals = words[1:]
    if len(numerals) != count:
        raise NoRow(f"a word and {count} numbers are due, not {words!r}")
    if not all([is_numeral(word) for word in numerals]):
        raise NoRow(f"not all are numbers in {words!r}")
    return [int(word) for word in numerals]


# What int takes is wider (signs, noughts ahead, underscores): one number would then have several texts.
def is_numeral(word):
    if len(word) < 1 or len(word) > MOST_FIGURES:
        return False
    if word.startswith("0") and word != "0":
        return False
    return all([sign in FIGURES for sign in word])


def check_place(kind, hots, colds):
    if kind == "hot":
        if len(colds) > 0:
            raise NoRow("a hot stream's row stands behind a cold one's")
        check_room(hots)
    elif kind == "cold":
        check_room(colds)
    else:
        raise NoRow(f"a stream is hot or cold, not {kind!r}")


def check_room(streams):
    if len(streams) >= MOST_OF_A_KIND:
        raise NoRow(f"there are {MOST_OF_A_KIND} streams of a kind at most")


def check_stream(kind, stream):
    start = stream[0]
    goal = stream[1]
    check_within(start, 0, MOST_DEGREE)
    check_within(goal, 0, MOST_DEGREE)
    check_within(stream[2], LEAST_RATE, MOST_RATE)
    if kind == "hot" and goal >= start:
        raise WrongWay(f"a hot stream is cooled, not brought from {start} to {goal}")
    if kind == "cold" and goal <= start:
        raise WrongWay(f"a cold stream is warmed, not brought from {start} to {goal}")


def check_within(number, least, most):
    if number < least or number > most:
        raise NoMeasure(f"{number} is not from {least} to {most}")
