"""Point 3: chance."""

import math
import unittest
from fractions import Fraction

from tests.lines import DROP, EVEN, SHOWS, TOP, UNEVEN, ask, chance, game, have, having, last, play, told_as
from tests.reckoned import drawn, drawn_game, expected_spread, paths

GAMES = (EVEN, UNEVEN, (7, 1, 6, 3), (100, 99, 1, 50))
MADE = [game(*one) for one in GAMES]


def chances(games, had, d, amounts, row):
    """What is told for each of the amounts, ten calls a line."""
    made = [game(*one) for one in games]
    told = []
    for place in range(0, len(amounts), 10):
        calls = [chance(d, x, *row) for x in amounts[place:place + 10]]
        told.extend(ask(*made, *having(had), *calls)[-len(calls):])
    return told


def mirrored(one):
    """The game in which the one who plays against it wins: what one has turned round, and each chance too."""
    v, u0, u1, u2 = one
    return (v, v - u0, v - u2, v - u1)


class Value(unittest.TestCase):

    def check(self, games, had, d, row):
        spread = expected_spread([games[number] for number in row], had, d)
        amounts = list(range(d + 3))
        for x, told in zip(amounts, chances(games, had, d, amounts, row)):
            with self.subTest(games=games, had=had, d=d, row=row, x=x):
                self.assertEqual(told, told_as(Fraction(spread.get(had + x, 0))))

    def test_no_round(self):
        for had in (0, 1, 2, 1000000, -1, -2, -3):
            told = ask(*MADE, *having(had), chance(0, 0, 1), chance(0, 1, 1), chance(0, 2, 3, 2), chance(0, TOP, 1))
            with self.subTest(had=had):
                self.assertEqual(told[-4:], [[0, 1, 1], [0, 0, 1], [0, 0, 1], [0, 0, 1]])

    def test_one_round_from_each_rest(self):
        known = {0: (1, 10), 1: (3, 4), 2: (3, 4), 3: (1, 10), 1000000: (3, 4), -1: (3, 4), -2: (3, 4), -3: (1, 10)}
        for had, told in known.items():
            with self.subTest(had=had):
                told_here = ask(game(*UNEVEN), *having(had), chance(1, 0, 0), chance(1, 1, 0), chance(1, 2, 0))[-3:]
                self.assertEqual(told_here, [[0, 0, 1], [0, *told], [0, 0, 1]])

    def test_rests_1_and_2_told_apart(self):
        for had, told in ((0, 1), (1, 2), (2, 3), (-1, 3), (-2, 2), (-3, 1), (-4, 3)):
            with self.subTest(had=had):
                self.assertEqual(last(game(5, 1, 2, 3), *having(had), chance(1, 1, 0)), [0, told, 5])

    def test_known_ways_of_an_even_game(self):
        told = chances([EVEN], 0, 30, list(range(33)) + [TOP], (0,))
        for x in range(31):
            value = Fraction(math.comb(30, (30 + x) // 2), 2 ** 30) if x % 2 == 0 else Fraction(0)
            with self.subTest(x=x):
                self.assertEqual(told[x], told_as(value))
        self.assertEqual(told[0], [0, 9694845, 67108864])
        self.assertEqual(told[30], [0, 1, 1073741824])
        self.assertEqual(told[31:], [[0, 0, 1]] * 3)

    def test_amounts_at_and_above_d(self):
        for d in (0, 1, 2, 29, 30):
            told = ask(*MADE, chance(d, d, 0), chance(d, d + 1, 0), chance(d, d + 2, 0), chance(d, 2 * d + 2, 0),
                       chance(d, 1000000, 0), chance(d, TOP - 1, 0), chance(d, TOP, 0))[4:]
            with self.subTest(d=d):
                self.assertEqual(told, [[0, 1, 2 ** d]] + [[0, 0, 1]] * 6)
            if d > 0:
                self.assertEqual(last(*MADE, chance(d, d - 1, 0)), [0, 0, 1])

    def test_to_win_each_round(self):
        # From 1: rest 1, then 2, then 0, with 6/7, 3/7, 1/7 of game 2.
        told = ask(*MADE, have(1), chance(3, 3, 2), chance(30, 30, 2), chance(29, 29, 2))
        self.assertEqual(told[5], [0, 18, 343])
        self.assertEqual(told[6], told_as(Fraction(18, 343) ** 10))
        self.assertEqual(told[7], told_as(Fraction(18, 343) ** 9 * Fraction(18, 49)))

    def test_each_amount_from_each_rest(self):
        for had in (0, 1, 2, 1000000, -1, -2, -3):
            for d in (1, 2, 7):
                self.check(GAMES, had, d, (1, 2, 0))

    def test_many_rounds(self):
        for had, d, row in ((0, 30, (1,)), (1, 29, (1, 0, 0)), (2, 30, (3, 2, 1, 0)), (-1, 30, (2, 3, 1, 1, 0, 2)),
                            (-2, 29, (3, 1, 2, 1, 0)), (-3, 29, (0, 1))):
            self.check(GAMES, had, d, row)

    def test_rows_shorter_and_longer_than_d(self):
        for row in ((2,), (1, 3), (1, 1, 0), (0, 1, 2, 3), (3, 1, 2, 1, 0), (2, 3, 1, 1, 0, 2)):
            for d in (1, 2, 3, 4, 5, 6, 7, 12):
                self.check(GAMES, 1, d, row)

    def test_every_way_it_may_go(self):
        for had in (0, 1, 2, -1):
            for row in ((0, 1, 1), (3,), (2, 1, 3, 0)):
                for d in (2, 5, 8):
                    ways = list(paths([GAMES[row[k % len(row)]] for k in range(d)], had))
                    for x, told in enumerate(chances(GAMES, had, d, list(range(d + 1)), row)):
                        value = sum((likely for likely, won in ways if won == x), Fraction(0))
                        with self.subTest(had=had, row=row, d=d, x=x):
                            self.assertEqual(told, told_as(value))

    def test_drawn_games(self):
        numbers = drawn(51)
        for turn in range(40):
            games = [drawn_game(numbers, 7 if turn % 2 else 100) for made in range(4)]
            row = [next(numbers) % 4 for place in range(1 + turn % 6)]
            had = next(numbers) % 12 - 4
            self.check(games, had, next(numbers) % 31, row)

    def test_the_chances_are_shared_whole(self):
        numbers = drawn(52)
        for turn in range(16):
            games = [drawn_game(numbers, 100) for made in range(2)]
            row = [next(numbers) % 2 for place in range(1 + turn % 6)]
            had = next(numbers) % 9 - 4
            d = (0, 1, 29, 30)[turn % 4]
            more = chances(games, had, d, list(range(d + 1)), row)
            # How likely it is that one has x less: x more in the games that are turned round.
            less = chances([mirrored(one) for one in games], -had, d, list(range(1, d + 1)), row)
            with self.subTest(games=games, row=row, had=had, d=d):
                self.assertEqual(sum(Fraction(*told[1:]) for told in more + less), 1)
                spread = expected_spread([games[number] for number in row], had, d)
                below = sum(likely for now, likely in spread.items() if now < had)
                self.assertEqual(sum(Fraction(*told[1:]) for told in more), 1 - below)

    def test_more_than_now_not_than_0(self):
        told = ask(game(*EVEN), have(10), chance(2, 2, 0), chance(2, 12, 0), chance(2, 10, 0), chance(2, 0, 0))
        self.assertEqual(told[2:], [[0, 1, 4], [0, 0, 1], [0, 0, 1], [0, 1, 2]])

    def test_begun_with_the_first_game(self):
        told = ask(*MADE, have(1), chance(2, 2, 1, 2), chance(2, 2, 1, 2, 3, 3, 0), chance(2, 2, 2, 1),
                   chance(1, 1, 3, 0), chance(1, 1, 3))
        self.assertEqual(told[6], told[5])
        self.assertNotEqual(told[7], told[5])
        self.assertEqual(told[9], told[8])

    def test_the_row_is_played_again_and_again(self):
        told = ask(*MADE, have(1), chance(6, 2, 1, 2), chance(6, 2, 1, 2, 1, 2), chance(6, 2, 1, 2, 1, 2, 1, 2))
        self.assertEqual(told[6:], [told[5]] * 2)

    def test_from_what_one_has_now(self):
        told = ask(game(*UNEVEN), chance(1, 1, 0), play(0, 1), chance(1, 1, 0), play(0, 0), chance(1, 1, 0), play(0, 0),
                   chance(1, 1, 0), have(2), chance(1, 1, 0))
        self.assertEqual(told[1::2], [[0, 1, 10], [0, 3, 4], [0, 1, 10], [0, 3, 4], [0, 3, 4]])

    def test_changes_nothing(self):
        told = ask(game(*EVEN), game(*UNEVEN), have(7), SHOWS, chance(30, 4, 0, 1, 1), SHOWS, chance(30, 4, 0, 1, 1),
                   SHOWS)
        self.assertEqual(told[5::2], [told[3]] * 2)
        self.assertEqual(told[6], told[4])
        told = ask(game(*EVEN), play(0, 0), chance(29, 1, 0), SHOWS, play(0, 0))
        self.assertEqual(told[3:], [[1, -1, *EVEN], [0, -2]])

    def test_heeds_the_games_there_are_now(self):
        told = ask(game(*EVEN), game(4, 3, 3, 3), chance(1, 1, 1), DROP, game(4, 1, 1, 1), chance(1, 1, 1))
        self.assertEqual([told[2], told[5]], [[0, 3, 4], [0, 1, 4]])


class Refused(unittest.TestCase):

    def test_d_above_30(self):
        for d in (31, 32, 100, TOP):
            for x in (0, 1, 31, TOP):
                for row in ((0,), (0, 1, 1), (1, 0, 1, 0, 1, 0)):
                    with self.subTest(d=d, x=x, row=row):
                        told = ask(game(*EVEN), game(*UNEVEN), have(4), SHOWS, chance(d, x, *row), SHOWS,
                                   chance(0, 0, *row))
                        self.assertEqual(told[4:], [[-1], told[3], [0, 1, 1]])

    def test_both_is_refused_with_what_is_told_first(self):
        for d in (31, TOP):
            for x in (0, TOP):
                for row in ((), (2,), (0, TOP), (0,) * 7, (0,) * 9):
                    with self.subTest(d=d, x=x, row=row):
                        told = ask(game(*EVEN), game(*UNEVEN), have(4), SHOWS, chance(d, x, *row), SHOWS)
                        self.assertEqual(told[4:], [[-2], told[3]])


if __name__ == "__main__":
    unittest.main()
