"""Point 3: after."""

import unittest
from fractions import Fraction

from tests.lines import (
    DROP, EVEN, EVEN_LESS, SHOWS, TOP, UNEVEN, UNEVEN_LESS, after, ask, game, have, having, last, play, told_as,
)
from tests.reckoned import drawn, drawn_game, expected_average, paths

GAMES = (EVEN, UNEVEN, (7, 1, 6, 3), (100, 99, 1, 50))
MADE = [game(*one) for one in GAMES]


class Value(unittest.TestCase):

    def check(self, had, d, row):
        with self.subTest(had=had, d=d, row=row):
            told = last(*MADE, *having(had), after(d, *row))
            self.assertEqual(told, told_as(expected_average([GAMES[number] for number in row], had, d)))

    def test_no_round(self):
        for had in (0, 1, 2, 3, 1000000, -1, -2, -3, -4):
            for row in ((0,), (1,), (1, 0, 2), (3, 2, 1, 0, 1, 2)):
                with self.subTest(had=had, row=row):
                    self.assertEqual(last(*MADE, *having(had), after(0, *row)), [0, had, 1])

    def test_one_round_from_each_rest(self):
        known = {0: (-4, 5), 1: (3, 2), 2: (5, 2), 3: (11, 5), -1: (-1, 2), -2: (-3, 2), -3: (-19, 5)}
        for had, told in known.items():
            with self.subTest(had=had):
                self.assertEqual(last(game(*UNEVEN), *having(had), after(1, 0)), [0, *told])

    def test_an_average_of_0(self):
        self.assertEqual(last(game(*EVEN), after(30, 0)), [0, 0, 1])
        self.assertEqual(last(game(3, 1, 1, 1), have(10), after(30, 0)), [0, 0, 1])

    def test_lowest_terms(self):
        self.assertEqual(last(game(100, 50, 50, 50), have(6), after(30, 0)), [0, 6, 1])
        self.assertEqual(last(game(100, 60, 60, 60), after(3, 0)), [0, 3, 5])
        self.assertEqual(last(game(100, 40, 40, 40), after(3, 0)), [0, -3, 5])

    def test_a_game_that_heeds_no_rest(self):
        for d in (0, 1, 2, 29, 30):
            for had in (0, 5, 1000000, -2):
                with self.subTest(d=d, had=had):
                    told = last(game(99, 98, 98, 98), *having(had), after(d, 0))
                    self.assertEqual(told, told_as(had + d * Fraction(97, 99)))

    def test_from_each_rest_below_0_too(self):
        for had in (0, 1, 2, 7, 1000000, -1, -2, -3, -5):
            for d in (1, 2, 5, 29, 30):
                self.check(had, d, (1, 2, 0))

    def test_rows_shorter_and_longer_than_d(self):
        for row in ((2,), (1, 3), (1, 1, 0), (0, 1, 2, 3), (3, 1, 2, 1, 0), (2, 3, 1, 1, 0, 2)):
            for d in (0, 1, 2, 3, 4, 5, 6, 7, 8, 12, 13, 29, 30):
                self.check(1, d, row)

    def test_begun_with_the_first_game(self):
        # What stands behind the first d games of a row is not played.
        told = ask(*MADE, have(1), after(2, 1, 2), after(2, 1, 2, 3, 3, 0), after(2, 2, 1), after(1, 3, 0), after(1, 3))
        self.assertEqual(told[6], told[5])
        self.assertNotEqual(told[7], told[5])
        self.assertEqual(told[9], told[8])

    def test_the_row_is_played_again_and_again(self):
        told = ask(*MADE, have(1), after(6, 1, 2), after(6, 1, 2, 1, 2), after(6, 1, 2, 1, 2, 1, 2))
        self.assertEqual(told[6:], [told[5]] * 2)

    def test_every_way_it_may_go(self):
        for had in (0, 1, 2, -1):
            for row in ((0, 1, 1), (3,), (2, 1, 3, 0)):
                for d in range(1, 9):
                    games = [GAMES[row[k % len(row)]] for k in range(d)]
                    value = had + sum(likely * won for likely, won in paths(games, had))
                    with self.subTest(had=had, row=row, d=d):
                        self.assertEqual(last(*MADE, *having(had), after(d, *row)), told_as(value))

    def test_losing_games_that_win_by_turns(self):
        told = ask(game(*EVEN_LESS), game(*UNEVEN_LESS), after(30, 0), after(30, 1), after(30, 1, 1, 0))
        self.assertEqual(told[2], [0, -3, 5])
        self.assertLess(told[3][1], 0)
        self.assertGreater(told[4][1], 0)
        self.assertEqual(told[4], told_as(expected_average([UNEVEN_LESS, UNEVEN_LESS, EVEN_LESS], 0, 30)))

    def test_drawn_games(self):
        numbers = drawn(41)
        for turn in range(120):
            games = [drawn_game(numbers, 7 if turn % 2 else 100) for made in range(4)]
            row = [next(numbers) % 4 for place in range(1 + turn % 6)]
            had = next(numbers) % 12 - 4
            d = next(numbers) % 31
            with self.subTest(games=games, row=row, had=had, d=d):
                told = last(*[game(*one) for one in games], *having(had), after(d, *row))
                self.assertEqual(told, told_as(expected_average([games[number] for number in row], had, d)))

    def test_from_what_one_has_now(self):
        told = ask(game(*UNEVEN), after(1, 0), play(0, 1), after(1, 0), play(0, 0), after(1, 0), play(0, 0),
                   after(1, 0), have(2), after(1, 0))
        self.assertEqual(told[1::2], [[0, -4, 5], [0, 3, 2], [0, -4, 5], [0, -1, 2], [0, 5, 2]])

    def test_above_the_bound_of_have(self):
        told = last(game(*UNEVEN), have(1000000), play(0, 1), play(0, 1), after(30, 0))
        self.assertEqual(told, told_as(expected_average([UNEVEN], 1000002, 30)))

    def test_changes_nothing(self):
        told = ask(game(*EVEN), game(*UNEVEN), have(7), SHOWS, after(30, 0, 1, 1), SHOWS, after(30, 0, 1, 1), SHOWS)
        self.assertEqual(told[5::2], [told[3]] * 2)
        self.assertEqual(told[6], told[4])
        told = ask(game(*EVEN), play(0, 0), after(29, 0), SHOWS, play(0, 0))
        self.assertEqual(told[3:], [[1, -1, *EVEN], [0, -2]])

    def test_heeds_the_games_there_are_now(self):
        told = ask(game(*EVEN), game(4, 3, 3, 3), after(2, 1), DROP, game(4, 1, 1, 1), after(2, 1))
        self.assertEqual([told[2], told[5]], [[0, 1, 1], [0, -1, 1]])


class Refused(unittest.TestCase):

    def test_d_above_30(self):
        for d in (31, 32, 100, TOP):
            for row in ((0,), (0, 1, 1), (1, 0, 1, 0, 1, 0)):
                with self.subTest(d=d, row=row):
                    told = ask(game(*EVEN), game(*UNEVEN), have(4), SHOWS, after(d, *row), SHOWS, after(0, *row))
                    self.assertEqual(told[4:], [[-1], told[3], [0, 4, 1]])

    def test_both_is_refused_with_what_is_told_first(self):
        for d in (31, TOP):
            for row in ((), (2,), (0, TOP), (0,) * 7, (0,) * 9):
                with self.subTest(d=d, row=row):
                    told = ask(game(*EVEN), game(*UNEVEN), have(4), SHOWS, after(d, *row), SHOWS)
                    self.assertEqual(told[4:], [[-2], told[3]])


if __name__ == "__main__":
    unittest.main()
