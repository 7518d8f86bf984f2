"""How the tests write a line's calls, and how they take its answers apart."""

from losinggames.rounds import answers

TOP = 4294967295

DROP = [1]
SHOWS = [4]

# The games of the best known case: each is fair, and some rows of them win.
EVEN = (2, 1, 1, 1)
UNEVEN = (20, 2, 15, 15)
# The same two, each chance less by 1 in 100: played alone, each loses.
EVEN_LESS = (100, 49, 49, 49)
UNEVEN_LESS = (100, 9, 74, 74)

# gain, best, after and chance: a line has at most 10 of them together.
LONG_CALLS = (5, 8, 9, 10)


def game(v, u0, u1, u2):
    return [0, v, u0, u1, u2]


def have(x):
    return [2, x]


def play(number, won):
    return [3, number, won]


def gain(*row):
    return [5, len(row), *row]


def rests(*row):
    return [6, len(row), *row]


def mix(*weights):
    return [7, len(weights), *weights]


def best(n):
    return [8, n]


def after(d, *row):
    return [9, d, len(row), *row]


def chance(d, x, *row):
    return [10, d, x, len(row), *row]


def loses(*row):
    return [11, len(row), *row]


def having(had, number=0):
    """The calls by which one has so much: below 0 too, where only lost rounds lead."""
    if had >= 0:
        return [have(had)]
    return [have(0)] + [play(number, 0)] * -had


def split(told):
    """The answers, one list a call; fails where the counts don't fit."""
    parts = []
    place = 0
    while place < len(told):
        count = told[place]
        if count < 1 or place + 1 + count > len(told):
            raise AssertionError(f"count {count} at {place} of {told}")
        parts.append(told[place + 1:place + 1 + count])
        place += 1 + count
    return parts


def ask(*calls):
    """What the calls, in this order on a new table, are answered."""
    line = []
    for call in calls:
        line.extend(call)
    if len(calls) > 40 or len(line) > 520 or len([call for call in calls if call[0] in LONG_CALLS]) > 10:
        raise AssertionError(f"no such line is asked: {calls}")
    parts = split(answers(line))
    if len(parts) != len(calls):
        raise AssertionError(f"{len(parts)} answers to {len(calls)} calls")
    return parts


def last(*calls):
    return ask(*calls)[-1]


def told_as(*values):
    """0, then fractions, each in lowest terms."""
    told = [0]
    for value in values:
        told.extend([value.numerator, value.denominator])
    return told


def told_as_gain(value):
    return told_as(value) + [1 if value > 0 else 2 if value == 0 else 0]
