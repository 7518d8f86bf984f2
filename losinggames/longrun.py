"""What a row of games brings in the long run, in whole numbers alone.

A game is a tuple (v, u0, u1, u2), a row a list of such games. Shares are three whole numbers, one for each rest:
each tells its part of their sum, so that no fraction is needed before the answer.
"""


def lowest_terms(above, below):
    """The fraction as a list of two numbers; below must be greater than 0."""
    divisor = abs(above)
    rest = below
    while rest != 0:
        remainder = divisor % rest
        divisor = rest
        rest = remainder
    return [above // divisor, below // divisor]


def shares_behind(shares, game):
    """The shares behind one round; their sum is v times what it was, so that they stay whole."""
    v = game[0]
    behind = [0, 0, 0]
    for rest in range(3):
        won = game[1 + rest]
        behind[(rest + 1) % 3] += shares[rest] * won
        behind[(rest + 2) % 3] += shares[rest] * (v - won)
    return behind


def won_in_round(shares, game):
    """What one round wins, all shares together, by v times the shares' sum."""
    v = game[0]
    return sum([shares[rest] * (2 * game[1 + rest] - v) for rest in range(3)])


def moves_of_row(row):
    """For each rest at the row's beginning the shares of the rests at its end."""
    moves = []
    for first in range(3):
        shares = [0, 0, 0]
        shares[first] = 1
        for game in row:
            shares = shares_behind(shares, game)
        moves.append(shares)
    return moves


def lasting_shares(row):
    """The shares at the row's beginning that stay the same when it is played once.

    Each rest's share is the sum of the ways in which both other rests can lead to it (the Markov chain tree
    theorem): exact, without a division, and never 0, since every game can be won and lost at each rest.
    """
    moves = moves_of_row(row)
    shares = []
    for rest in range(3):
        one = (rest + 1) % 3
        other = (rest + 2) % 3
        both_straight = moves[one][rest] * moves[other][rest]
        one_by_other = moves[one][other] * moves[other][rest]
        other_by_one = moves[other][one] * moves[one][rest]
        shares.append(both_straight + one_by_other + other_by_one)
    return shares


def gain_of_row(row):
    """The gain of a round of the row in the long run, above and below."""
    shares = lasting_shares(row)
    won = 0
    for game in row:
        # What was won before is told by the shares' old sum, which this round makes v times as great.
        won = won * game[0] + won_in_round(shares, game)
        shares = shares_behind(shares, game)
    return lowest_terms(won, sum(shares) * len(row))
