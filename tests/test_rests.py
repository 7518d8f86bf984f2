"""Point 3: rests."""

import itertools
import math
import unittest
from fractions import Fraction

from tests.lines import (
    EVEN, EVEN_LESS, SHOWS, UNEVEN, UNEVEN_LESS, ask, gain, game, have, last, play, rests, told_as,
)
from tests.reckoned import drawn, drawn_game, expected_rests


class Value(unittest.TestCase):

    def test_known_rests(self):
        told = ask(game(*EVEN), game(*UNEVEN), rests(0), rests(1), rests(0, 0, 0, 0, 0, 0))
        self.assertEqual(told[2], [0, 1, 3, 1, 3, 1, 3])
        self.assertEqual(told[3], [0, 5, 13, 2, 13, 6, 13])
        self.assertEqual(told[4], [0, 1, 3, 1, 3, 1, 3])

    def test_each_rest_in_its_place(self):
        # Both other rests lead almost always to this one: the next by losing, the one before by winning.
        for rest in range(3):
            chances = [0, 0, 0]
            chances[rest] = 50
            chances[(rest + 1) % 3] = 1
            chances[(rest + 2) % 3] = 99
            told = last(game(100, *chances), rests(0))
            with self.subTest(rest=rest):
                shares = [Fraction(told[1 + 2 * k], told[2 + 2 * k]) for k in range(3)]
                self.assertEqual(max(shares), shares[rest])
                self.assertEqual(told, told_as(*expected_rests([(100, *chances)])))

    def test_every_row_of_two_games(self):
        for games in ((EVEN, UNEVEN), (EVEN_LESS, UNEVEN_LESS), ((3, 1, 2, 1), (100, 99, 1, 50))):
            made = [game(*one) for one in games]
            for length in range(1, 7):
                for row in itertools.product((0, 1), repeat=length):
                    with self.subTest(games=games, row=row):
                        shares = expected_rests([games[number] for number in row])
                        self.assertEqual(last(*made, rests(*row)), told_as(*shares))

    def test_rows_of_four_games(self):
        numbers = drawn(11)
        for turn in range(90):
            games = [drawn_game(numbers, 7 if turn % 2 else 100) for made in range(4)]
            row = [next(numbers) % 4 for place in range(1 + turn % 6)]
            with self.subTest(games=games, row=row):
                told = last(*[game(*one) for one in games], rests(*row))
                self.assertEqual(told, told_as(*expected_rests([games[number] for number in row])))

    def test_three_fractions_in_lowest_terms_whose_sum_is_1(self):
        numbers = drawn(12)
        for turn in range(60):
            games = [drawn_game(numbers, 100) for made in range(2)]
            told = last(*[game(*one) for one in games], rests(*[next(numbers) % 2 for place in range(1 + turn % 6)]))
            with self.subTest(games=games, told=told):
                self.assertEqual(len(told), 7)
                self.assertEqual(told[0], 0)
                pairs = [told[1:3], told[3:5], told[5:7]]
                self.assertEqual([math.gcd(*pair) for pair in pairs], [1, 1, 1])
                self.assertGreater(min(told[1:]), 0)
                self.assertEqual(sum(Fraction(*pair) for pair in pairs), 1)

    def test_each_fraction_has_its_own_lowest_terms(self):
        self.assertEqual(last(game(3, 1, 1, 2), rests(0)), [0, 2, 5, 1, 4, 7, 20])
        self.assertEqual(last(game(99, 66, 33, 33), rests(0)), [0, 7, 20, 2, 5, 1, 4])

    def test_a_row_begun_later_has_other_rests_and_the_same_gain(self):
        made = [game(*EVEN_LESS), game(*UNEVEN_LESS)]
        rows = ((0, 1, 1), (1, 1, 0), (1, 0, 1))
        told = ask(*made, *[rests(*row) for row in rows], *[gain(*row) for row in rows])
        self.assertEqual(len({tuple(part) for part in told[2:5]}), 3)
        self.assertEqual(len({tuple(part) for part in told[5:8]}), 1)
        for row, part in zip(rows, told[2:5]):
            games = [(EVEN_LESS, UNEVEN_LESS)[number] for number in row]
            self.assertEqual(part, told_as(*expected_rests(games)))

    def test_a_row_played_twice_has_the_same_rests(self):
        told = ask(game(*EVEN), game(*UNEVEN), rests(0, 1, 1), rests(0, 1, 1, 0, 1, 1), rests(1), rests(1, 1, 1))
        self.assertEqual(told[3], told[2])
        self.assertEqual(told[5], told[4])

    def test_what_one_has_does_not_matter(self):
        for begun in ([], [have(1)], [have(2)], [have(1000000)], [play(0, 0)], [play(0, 0)] * 2):
            with self.subTest(begun=begun):
                self.assertEqual(last(game(*UNEVEN), *begun, rests(0)), [0, 5, 13, 2, 13, 6, 13])

    def test_changes_nothing(self):
        told = ask(game(*EVEN), game(*UNEVEN), have(7), SHOWS, rests(0, 1, 1), SHOWS, rests(0, 1, 1))
        self.assertEqual(told[5], told[3])
        self.assertEqual(told[6], told[4])


if __name__ == "__main__":
    unittest.main()
