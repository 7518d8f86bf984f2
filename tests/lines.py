"""How the tests write a line's calls, and how they take its answers apart."""

from losinggames.rounds import answers

TOP = 4294967295

DROP = [1]
SHOWS = [4]

# The games of the best known case: each is fair, and some rows of them win.
EVEN = (2, 1, 1, 1)
UNEVEN = (20, 2, 15, 15)
# The same two, each chance less by 1 in 100: played alone, each loses.
EVEN_LESS = (100, 49, 49, 49)
UNEVEN_LESS = (100, 9, 74, 74)


def game(v, u0, u1, u2):
    return [0, v, u0, u1, u2]


def have(x):
    return [2, x]


def play(number, won):
    return [3, number, won]


def gain(*row):
    return [5, len(row), *row]


def split(told):
    """The answers, one list a call; fails where the counts don't fit."""
    parts = []
    place = 0
    while place < len(told):
        count = told[place]
        if count < 1 or place + 1 + count > len(told):
            raise AssertionError(f"count {count} at {place} of {told}")
        parts.append(told[place + 1:place + 1 + count])
        place += 1 + count
    return parts


def ask(*calls):
    """What the calls, in this order on a new table, are answered."""
    line = []
    for call in calls:
        line.extend(call)
    parts = split(answers(line))
    if len(parts) != len(calls):
        raise AssertionError(f"{len(parts)} answers to {len(calls)} calls")
    return parts


def last(*calls):
    return ask(*calls)[-1]
