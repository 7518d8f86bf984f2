"""The calls on one table, taken from one list of whole numbers and answered in another."""

from losinggames.reckoning import (
    average_behind, chance_of_more, gain_of_row, is_greater, mixed_game, rests_of_row, rounds_of_row, rows_of_length,
)

GAME = 0
DROP = 1
HAVE = 2
PLAY = 3
SHOWS = 4
GAIN = 5
RESTS = 6
MIX = 7
BEST = 8
AFTER = 9
CHANCE = 10
LOSES = 11

# By the number of the call: how many whole numbers it has, and whether a row (or weights) stands behind them.
NUMBERS = (4, 0, 1, 2, 0, 0, 0, 0, 1, 1, 2, 0)
WITH_ROW = (False, False, False, False, False, True, True, True, False, True, True, True)

MOST_GAMES = 4
MOST_IN_ROW = 6
LEAST_V = 2
MOST_V = 100
MOST_HAD = 1000000
MOST_WEIGHT = 9
MOST_IN_BEST = 4
MOST_ROUNDS = 30


class Table:
    """The games that there are, each a tuple (v, u0, u1, u2), and how much one has."""

    def __init__(self):
        self.games = []
        self.had = 0


def can_be_game(numbers):
    v = numbers[0]
    if v < LEAST_V or v > MOST_V:
        return False
    return all([1 <= u and u <= v - 1 for u in numbers[1:]])


def make_game(table, numbers):
    if not can_be_game(numbers):
        return [-1]
    if len(table.games) == MOST_GAMES:
        return [-5]
    table.games.append(tuple(numbers))
    return [len(table.games) - 1]


def drop_game(table):
    if len(table.games) == 0:
        return [-9]
    table.games.pop()
    return [len(table.games)]


def have(table, numbers):
    if numbers[0] > MOST_HAD:
        return [-1]
    table.had = numbers[0]
    return [0]


def play(table, numbers):
    won = numbers[1]
    if numbers[0] >= len(table.games):
        return [-2]
    if won > 1:
        return [-1]
    if won == 1:
        table.had += 1
    else:
        table.had -= 1
    return [0, table.had]


def shows(table):
    told = [len(table.games), table.had]
    for game in table.games:
        told.extend(game)
    return told


def is_row(table, row):
    if len(row) < 1 or len(row) > MOST_IN_ROW:
        return False
    return all([number < len(table.games) for number in row])


def sign_told(above):
    if above > 0:
        return 1
    if above == 0:
        return 2
    return 0


def gain_told(row):
    fraction = gain_of_row(row)
    return [0, fraction[0], fraction[1], sign_told(fraction[0])]


def rests(row):
    told = [0]
    for fraction in rests_of_row(row):
        told.extend(fraction)
    return told


def loses(row):
    if any([gain_of_row([game])[0] >= 0 for game in row]):
        return [0]
    if gain_of_row(row)[0] > 0:
        return [1]
    return [0]


def mix(table, weights):
    if len(weights) != len(table.games):
        return [-2]
    if any([weight > MOST_WEIGHT for weight in weights]) or sum(weights) == 0:
        return [-2]
    return gain_told([mixed_game(table.games, weights)])


def best(table, numbers):
    length = numbers[0]
    if len(table.games) == 0:
        return [-2]
    if length < 1 or length > MOST_IN_BEST:
        return [-1]
    chosen = []
    # No row gains as little as this, since every game can be won.
    greatest = [-1, 1]
    for row in rows_of_length(len(table.games), length):
        fraction = gain_of_row([table.games[number] for number in row])
        if is_greater(fraction, greatest):
            chosen = row
            greatest = fraction
    return chosen + greatest


def answer_on_row(table, call, numbers, row):
    if not is_row(table, row):
        return [-2]
    games = [table.games[number] for number in row]
    if call == GAIN:
        return gain_told(games)
    if call == RESTS:
        return rests(games)
    if call == LOSES:
        return loses(games)
    if numbers[0] > MOST_ROUNDS:
        return [-1]
    played = rounds_of_row(games, numbers[0])
    if call == AFTER:
        return [0] + average_behind(table.had, played)
    return [0] + chance_of_more(table.had, numbers[1], played)


def answer(table, call, numbers, row):
    if call == GAME:
        return make_game(table, numbers)
    if call == DROP:
        return drop_game(table)
    if call == HAVE:
        return have(table, numbers)
    if call == PLAY:
        return play(table, numbers)
    if call == SHOWS:
        return shows(table)
    if call == MIX:
        return mix(table, row)
    if call == BEST:
        return best(table, numbers)
    return answer_on_row(table, call, numbers, row)


def answers(calls):
    """For each call, in order, how many numbers are answered, then these."""
    table = Table()
    told = []
    place = 0
    while place < len(calls):
        call = calls[place]
        row_place = place + 1 + NUMBERS[call]
        numbers = calls[place + 1:row_place]
        row = []
        place = row_place
        if WITH_ROW[call]:
            place = row_place + 1 + calls[row_place]
            row = calls[row_place + 1:place]
        answered = answer(table, call, numbers, row)
        told.append(len(answered))
        told.extend(answered)
    return told
