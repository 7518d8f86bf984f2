"""Point 3: gain."""

import itertools
import unittest
from fractions import Fraction

from tests.lines import (
    DROP, EVEN, EVEN_LESS, SHOWS, TOP, UNEVEN, UNEVEN_LESS, ask, gain, game, have, last, play, told_as_gain,
)
from tests.reckoned import drawn, drawn_game, expected_gain


class Value(unittest.TestCase):

    def test_known_rows_of_two_fair_games(self):
        known = {
            (0,): (0, 1, 2), (1,): (0, 1, 2), (0, 1): (0, 1, 2), (1, 0): (0, 1, 2),
            (0, 0, 1): (32, 1609, 1), (0, 1, 1): (2416, 35601, 1), (0, 0, 1, 1): (4, 163, 1),
            (0, 1, 0, 1, 1): (3613392, 47747645, 1),
        }
        for row, told in known.items():
            with self.subTest(row=row):
                self.assertEqual(last(game(*EVEN), game(*UNEVEN), gain(*row)), [0, *told])

    def test_losing_games_that_win_by_turns(self):
        told = ask(game(*EVEN_LESS), game(*UNEVEN_LESS), gain(0), gain(1), gain(0, 1, 1), gain(0, 0, 1))
        self.assertEqual(told[2], [0, -1, 50, 0])
        self.assertEqual(told[3], [0, -1529, 87950, 0])
        self.assertEqual(told[4], [0, 204769854573, 4355227634350, 1])
        self.assertEqual(told[5], [0, -23819505423, 15725520374650, 0])

    def test_a_game_that_heeds_no_rest(self):
        for v in (2, 3, 10, 99, 100):
            for u in (1, v // 2, v - 1):
                with self.subTest(v=v, u=u):
                    self.assertEqual(last(game(v, u, u, u), gain(0)), told_as_gain(Fraction(2 * u - v, v)))

    def test_lowest_terms(self):
        self.assertEqual(last(game(100, 60, 60, 60), gain(0)), [0, 1, 5, 1])
        self.assertEqual(last(game(100, 40, 40, 40), gain(0)), [0, -1, 5, 0])
        self.assertEqual(last(game(100, 50, 50, 50), gain(0)), [0, 0, 1, 2])
        self.assertEqual(last(game(100, 50, 50, 50), gain(0, 0, 0, 0, 0, 0)), [0, 0, 1, 2])

    def test_is_by_a_round_not_by_the_row(self):
        told = ask(game(4, 3, 3, 3), game(2, 1, 1, 1), gain(0), gain(0, 1), gain(0, 0), gain(0, 1, 1, 1))
        self.assertEqual(told[2:], [[0, 1, 2, 1], [0, 1, 4, 1], [0, 1, 2, 1], [0, 1, 8, 1]])

    def test_fair_just_if_three_wins_are_as_likely_as_three_losses(self):
        for v in range(2, 8):
            for u0, u1, u2 in itertools.product(range(1, v), repeat=3):
                with self.subTest(game=(v, u0, u1, u2)):
                    more = u0 * u1 * u2 - (v - u0) * (v - u1) * (v - u2)
                    sign = 1 if more > 0 else 2 if more == 0 else 0
                    told = last(game(v, u0, u1, u2), gain(0))
                    self.assertEqual(told, told_as_gain(expected_gain([(v, u0, u1, u2)])))
                    self.assertEqual(told[3], sign)

    def test_every_row_of_two_games(self):
        for games in ((EVEN, UNEVEN), (EVEN_LESS, UNEVEN_LESS), ((3, 1, 2, 1), (100, 99, 1, 50))):
            made = [game(*one) for one in games]
            for length in range(1, 7):
                for row in itertools.product((0, 1), repeat=length):
                    with self.subTest(games=games, row=row):
                        value = expected_gain([games[number] for number in row])
                        self.assertEqual(last(*made, gain(*row)), told_as_gain(value))

    def test_rows_of_four_games(self):
        numbers = drawn(7)
        signs = {0: 0, 1: 0, 2: 0}
        for turn in range(150):
            games = [drawn_game(numbers, 7 if turn % 2 else 100) for made in range(4)]
            row = [next(numbers) % 4 for place in range(1 + turn % 6)]
            with self.subTest(games=games, row=row):
                told = last(*[game(*one) for one in games], gain(*row))
                self.assertEqual(told, told_as_gain(expected_gain([games[number] for number in row])))
                signs[told[3]] += 1
        self.assertGreater(min(signs[0], signs[1]), 20)

    def test_row_of_the_greatest_and_least_chances(self):
        games = ((100, 99, 99, 99), (100, 1, 1, 1), (100, 99, 1, 1), (100, 1, 99, 99))
        made = [game(*one) for one in games]
        for row in ((0, 1, 2, 3, 0, 1), (2, 2, 2, 3, 3, 3), (3, 2, 1, 0, 3, 2), (0, 0, 0, 0, 0, 0), (1, 1, 1, 1, 1, 1)):
            with self.subTest(row=row):
                value = expected_gain([games[number] for number in row])
                self.assertEqual(last(*made, gain(*row)), told_as_gain(value))

    def test_a_row_played_twice_or_begun_later_gains_the_same(self):
        told = ask(game(*EVEN_LESS), game(*UNEVEN_LESS), gain(0, 1, 1), gain(0, 1, 1, 0, 1, 1), gain(1, 1, 0),
                   gain(1, 0, 1))
        self.assertEqual(told[3:], [told[2]] * 3)

    def test_what_one_has_does_not_matter(self):
        for had in (0, 1, 2, 1000000):
            with self.subTest(had=had):
                told = last(game(*EVEN), game(*UNEVEN), have(had), gain(0, 0, 1, 1))
                self.assertEqual(told, [0, 4, 163, 1])
        self.assertEqual(last(game(*EVEN), game(*UNEVEN), play(0, 0), gain(0, 0, 1, 1)), [0, 4, 163, 1])

    def test_changes_nothing(self):
        told = ask(game(*EVEN), game(*UNEVEN), have(7), SHOWS, gain(0, 1, 1), SHOWS, gain(0, 1, 1))
        self.assertEqual(told[5], told[3])
        self.assertEqual(told[6], told[4])


class Refused(unittest.TestCase):

    def check(self, row):
        told = ask(game(*EVEN), game(*UNEVEN), have(4), SHOWS, gain(*row), SHOWS, gain(0, 1, 1))
        self.assertEqual(told[4], [-2])
        self.assertEqual(told[5], told[3])
        self.assertEqual(told[6], [0, 2416, 35601, 1])

    def test_an_empty_row(self):
        self.check(())

    def test_a_row_of_6_is_one(self):
        self.assertEqual(last(game(*EVEN), gain(0, 0, 0, 0, 0, 0)), [0, 0, 1, 2])

    def test_a_row_too_long(self):
        for length in (7, 8, 9):
            with self.subTest(length=length):
                self.check((0,) * length)
                self.check((0, 1, TOP) * 3)

    def test_a_game_that_there_is_not(self):
        for number in (2, 3, 4, TOP):
            for row in ((number,), (number, 0), (0, number), (0, 1, 0, 1, 0, number), (0, number, 1), (number,) * 6):
                with self.subTest(row=row):
                    self.check(row)

    def test_number_4_of_4_games(self):
        made = [game(*EVEN)] * 4
        self.assertEqual(ask(*made, gain(4), gain(3))[4:], [[-2], [0, 0, 1, 2]])

    def test_a_game_that_no_longer_is(self):
        told = ask(game(*EVEN), game(*UNEVEN), gain(0, 1, 1), DROP, gain(0, 1, 1), gain(1), gain(0))
        self.assertEqual(told[2:], [[0, 2416, 35601, 1], [1], [-2], [-2], [0, 0, 1, 2]])

    def test_a_game_made_anew_is_the_one_played(self):
        told = ask(game(*EVEN), game(4, 3, 3, 3), gain(1), DROP, game(4, 1, 1, 1), gain(1))
        self.assertEqual(told[2], [0, 1, 2, 1])
        self.assertEqual(told[5], [0, -1, 2, 0])

    def test_no_game_at_all(self):
        for row in ((), (0,), (0, 0), (TOP,), (0,) * 6, (0,) * 7, (0,) * 9):
            with self.subTest(row=row):
                self.assertEqual(ask(gain(*row), SHOWS), [[-2], [0, 0]])


if __name__ == "__main__":
    unittest.main()
