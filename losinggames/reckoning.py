"""What games bring, in the long run and behind some rounds, in whole numbers alone.

A game is a tuple (v, u0, u1, u2), a row a list of such games. Shares are three whole numbers, one for each rest:
each tells its part of their sum, so that no fraction is needed before the answer. A fraction that is answered is a
list of two numbers, above and below, in lowest terms.
"""


def lowest_terms(above, below):
    """The fraction as a list of two numbers; below must be greater than 0."""
    divisor = abs(above)
    rest = below
    while rest != 0:
        remainder = divisor % rest
        divisor = rest
        rest = remainder
    return [above // divisor, below // divisor]


def shares_behind(shares, game):
    """The shares behind one round; their sum is v times what it was, so that they stay whole."""
    v = game[0]
    behind = [0, 0, 0]
    for rest in range(3):
        won = game[1 + rest]
        behind[(rest + 1) % 3] += shares[rest] * won
        behind[(rest + 2) % 3] += shares[rest] * (v - won)
    return behind


def won_in_round(shares, game):
    """What one round wins, all shares together, by v times the shares' sum."""
    v = game[0]
    return sum([shares[rest] * (2 * game[1 + rest] - v) for rest in range(3)])


def moves_of_row(row):
    """For each rest at the row's beginning the shares of the rests at its end."""
    moves = []
    for first in range(3):
        shares = [0, 0, 0]
        shares[first] = 1
        for game in row:
            shares = shares_behind(shares, game)
        moves.append(shares)
    return moves


def lasting_shares(row):
    """The shares at the row's beginning that stay the same when it is played once.

    Each rest's share is the sum of the ways in which both other rests can lead to it (the Markov chain tree
    theorem): exact, without a division, and never 0, since every game can be won and lost at each rest.
    """
    moves = moves_of_row(row)
    shares = []
    for rest in range(3):
        one = (rest + 1) % 3
        other = (rest + 2) % 3
        both_straight = moves[one][rest] * moves[other][rest]
        one_by_other = moves[one][other] * moves[other][rest]
        other_by_one = moves[other][one] * moves[one][rest]
        shares.append(both_straight + one_by_other + other_by_one)
    return shares


def won_in_rounds(shares, games):
    """What the games win, one round each, and by what: above and below, not yet in lowest terms."""
    won = 0
    for game in games:
        # What was won before is told by the shares' old sum, which this round makes v times as great.
        won = won * game[0] + won_in_round(shares, game)
        shares = shares_behind(shares, game)
    return [won, sum(shares)]


def gain_of_row(row):
    """The gain of a round of the row in the long run."""
    won = won_in_rounds(lasting_shares(row), row)
    return lowest_terms(won[0], won[1] * len(row))


def rests_of_row(row):
    """How often each rest comes at the row's beginning in the long run, one fraction for each."""
    shares = lasting_shares(row)
    return [lowest_terms(share, sum(shares)) for share in shares]


def mixed_game(games, weights):
    """The game whose chances are the games' chances, shared by the weights; its v may be of any size."""
    v = 1
    chances = [0, 0, 0]
    for place in range(len(games)):
        game = games[place]
        weight = weights[place]
        # All v multiplied serve as the one below, since each game may tell its chances by another v.
        chances = [chances[rest] * game[0] + weight * game[1 + rest] * v for rest in range(3)]
        v = v * game[0]
    return (v * sum(weights), chances[0], chances[1], chances[2])


def rows_of_length(count, length):
    """All rows of so many numbers below count; of two rows the one with the lower number first comes first."""
    rows = [[]]
    for place in range(length):
        longer = []
        for row in rows:
            for number in range(count):
                longer.append(row + [number])
        rows = longer
    return rows


def is_greater(fraction, other):
    return fraction[0] * other[1] > other[0] * fraction[1]


def rounds_of_row(row, count):
    """The games of that many rounds of the row, begun with its first game."""
    return [row[place % len(row)] for place in range(count)]


def average_behind(had, games):
    """How much one has on average behind one round of each of the games."""
    shares = [0, 0, 0]
    shares[had % 3] = 1
    won = won_in_rounds(shares, games)
    return lowest_terms(had * won[1] + won[0], won[1])


def parts_by_wins(had, games):
    """For each number of rounds won, from 0 on, its part of their sum behind one round of each of the games."""
    parts = [1]
    for played in range(len(games)):
        game = games[played]
        behind = [0] * (played + 2)
        for wins in range(played + 1):
            # Each round that isn't won takes one away: what one has is had + wins - (played - wins).
            won = game[1 + (had + 2 * wins - played) % 3]
            behind[wins + 1] += parts[wins] * won
            behind[wins] += parts[wins] * (game[0] - won)
        parts = behind
    return parts


def chance_of_more(had, more, games):
    """How likely it is that one has so much more than now behind one round of each of the games."""
    count = len(games)
    if more > count or (count + more) % 2 == 1:
        return [0, 1]
    parts = parts_by_wins(had, games)
    return lowest_terms(parts[(count + more) // 2], sum(parts))
