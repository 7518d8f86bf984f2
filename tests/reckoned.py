"""What the answers should be, reckoned by the words of the document in fractions, apart from the program."""

import itertools
from fractions import Fraction


def solved(lines):
    """The unknowns of three equations, each a list of three factors and what they come to."""
    for column in range(3):
        chosen = next(k for k in range(column, 3) if lines[k][column] != 0)
        lines[column], lines[chosen] = lines[chosen], lines[column]
        lines[column] = [x / lines[column][column] for x in lines[column]]
        for k in range(3):
            if k != column:
                factor = lines[k][column]
                lines[k] = [x - factor * y for x, y in zip(lines[k], lines[column])]
    return [line[3] for line in lines]


def paths(games, had):
    """Each way the games may go, one round each, from what one has: how likely it is, what it wins."""
    for way in itertools.product((1, -1), repeat=len(games)):
        likely = Fraction(1)
        now = had
        for (v, *chances), step in zip(games, way):
            win = Fraction(chances[now % 3], v)
            likely *= win if step == 1 else 1 - win
            now += step
        yield likely, now - had


def expected_rests(games):
    """The only way to share 1 among the rests that stays the same when the row is played once."""
    moves = [[Fraction(0)] * 3 for rest in range(3)]
    for rest in range(3):
        for likely, won in paths(games, rest):
            moves[rest][(rest + won) % 3] += likely
    lines = [[moves[k][rest] - (1 if k == rest else 0) for k in range(3)] + [0] for rest in range(2)]
    return solved(lines + [[Fraction(1)] * 4])


def expected_gain(games):
    shares = expected_rests(games)
    won = sum(shares[rest] * likely * won for rest in range(3) for likely, won in paths(games, rest))
    return Fraction(won, len(games))


def expected_mix(games, weights):
    """The gain of the game whose chances are the games' chances, shared by the weights.

    Its chances are no whole numbers by a v; by 1 they are fractions, which paths takes as well.
    """
    whole = sum(weights)
    chances = [
        sum(Fraction(weight * one[1 + rest], one[0]) for one, weight in zip(games, weights)) / whole
        for rest in range(3)
    ]
    return expected_gain([(1, *chances)])


def expected_best(games, length):
    """The row and its gain, by every row there is, from the last one to the first."""
    best = None
    for row in sorted(itertools.product(range(len(games)), repeat=length), reverse=True):
        gained = expected_gain([games[number] for number in row])
        if best is None or gained >= best[1]:
            best = (row, gained)
    return best


def expected_spread(games, had, rounds):
    """How likely each amount is that one may have behind so many rounds of the row."""
    spread = {had: Fraction(1)}
    for v, *chances in itertools.islice(itertools.cycle(games), rounds):
        behind = {}
        for now, likely in spread.items():
            win = Fraction(chances[now % 3], v)
            behind[now + 1] = behind.get(now + 1, 0) + likely * win
            behind[now - 1] = behind.get(now - 1, 0) + likely * (1 - win)
        spread = behind
    return spread


def expected_average(games, had, rounds):
    return sum(now * likely for now, likely in expected_spread(games, had, rounds).items())


def drawn(seed):
    """Whole numbers in a fixed order that looks like none."""
    while True:
        seed = (seed * 1103515245 + 12345) % 2 ** 31
        yield seed >> 8


def drawn_game(numbers, most):
    v = 2 + next(numbers) % (most - 1)
    return (v, *[1 + next(numbers) % (v - 1) for rest in range(3)])
