"""Point 4: best."""

import unittest

from tests.lines import (
    DROP, EVEN, EVEN_LESS, SHOWS, TOP, UNEVEN, UNEVEN_LESS, ask, best, gain, game, have, last, play,
)
from tests.reckoned import drawn, drawn_game, expected_best


def told_as_best(games, n):
    row, gained = expected_best(games, n)
    return [*row, gained.numerator, gained.denominator]


class Value(unittest.TestCase):

    def test_known_rows_of_two_fair_games(self):
        told = ask(game(*EVEN), game(*UNEVEN), best(1), best(2), best(3), best(4))
        self.assertEqual(told[2:], [[0, 0, 1], [0, 0, 0, 1], [0, 1, 1, 2416, 35601], [0, 0, 1, 1, 4, 163]])

    def test_losing_games(self):
        games = [EVEN_LESS, UNEVEN_LESS]
        told = ask(game(*EVEN_LESS), game(*UNEVEN_LESS), best(1), best(2), best(3), best(4))
        self.assertEqual(told[2], [1, -1529, 87950])
        self.assertEqual(told[4], [0, 1, 1, 204769854573, 4355227634350])
        self.assertEqual(told[2:], [told_as_best(games, n) for n in range(1, 5)])
        self.assertLess(told[3][2], 0)

    def test_below_0_at_its_best(self):
        told = ask(game(4, 1, 1, 1), game(3, 1, 1, 1), best(1), best(2), best(4))
        self.assertEqual(told[2:], [[1, -1, 3], [1, 1, -1, 3], [1, 1, 1, 1, -1, 3]])
        told = ask(*[game(100, 1, 1, 1)] * 4, best(1), best(4))
        self.assertEqual(told[4:], [[0, -49, 50], [0, 0, 0, 0, -49, 50]])

    def test_one_game(self):
        for one in (EVEN, UNEVEN, EVEN_LESS, (7, 6, 1, 5)):
            with self.subTest(game=one):
                told = ask(game(*one), gain(0), best(1), best(2), best(3), best(4))
                self.assertEqual(told[2:], [[0] * n + told[1][1:3] for n in (1, 2, 3, 4)])

    def test_drawn_games(self):
        numbers = drawn(31)
        for turn in range(48):
            games = [drawn_game(numbers, 5 if turn % 3 else 100) for made in range(1 + turn % 4)]
            made = [game(*one) for one in games]
            n = 1 + turn // 4 % 4 if len(games) < 4 else 1 + turn // 4 % 3
            with self.subTest(games=games, n=n):
                self.assertEqual(last(*made, best(n)), told_as_best(games, n))

    def test_four_of_four_games(self):
        for games in (
            (EVEN, UNEVEN, EVEN_LESS, UNEVEN_LESS),
            ((10, 9, 2, 2), (10, 2, 9, 2), (10, 2, 2, 9), (2, 1, 1, 1)),
        ):
            with self.subTest(games=games):
                self.assertEqual(last(*[game(*one) for one in games], best(4)), told_as_best(games, 4))

    def test_the_same_game_twice(self):
        for n in range(1, 5):
            for games in range(1, 5):
                told = last(*[game(3, 2, 2, 2)] * games, best(n))
                with self.subTest(games=games, n=n):
                    self.assertEqual(told, [0] * n + [1, 3])
        # The same chances by another v.
        self.assertEqual(last(game(99, 66, 66, 66), game(3, 2, 2, 2), best(3)), [0, 0, 0, 1, 3])

    def test_the_same_game_twice_behind_a_worse_one(self):
        made = [game(3, 1, 1, 1), game(3, 2, 2, 2), game(6, 4, 4, 4), game(2, 1, 1, 1)]
        told = ask(*made, best(1), best(2), best(3), best(4))
        self.assertEqual(told[4:], [[1, 1, 3], [1, 1, 1, 3], [1, 1, 1, 1, 3], [1, 1, 1, 1, 1, 3]])

    def test_a_row_and_the_same_begun_later(self):
        # By turns, 0 and 1 in the best of places: begun with 1 the row gains as much.
        made = [game(*UNEVEN), game(*EVEN)]
        told = ask(*made, gain(0, 0, 1), gain(0, 1, 0), gain(1, 0, 0), best(3))
        self.assertEqual(told[3:5], [told[2]] * 2)
        self.assertEqual(told[5], [0, 0, 1, 2416, 35601])

    def test_among_rows_as_great_the_first_place_counts_first(self):
        # Games 1 and 2 are one game: 0, 1, 1 gains as much as 0, 2, 2 and 2, 1, 0 and the like.
        told = last(game(*EVEN), game(*UNEVEN), game(*UNEVEN), best(3))
        self.assertEqual(told, [0, 1, 1, 2416, 35601])
        told = last(game(*UNEVEN), game(*UNEVEN), game(*EVEN), best(3))
        self.assertEqual(told, [0, 0, 2, 2416, 35601])
        told = last(game(*UNEVEN), game(*EVEN), game(*UNEVEN), game(*EVEN), best(4))
        self.assertEqual(told, [0, 0, 1, 1, 4, 163])

    def test_just_n_games(self):
        # Of 3 games the best row gains more than any of 4, and is not told for 4.
        told = ask(game(*EVEN), game(*UNEVEN), best(3), best(4))
        self.assertEqual([len(part) for part in told[2:]], [5, 6])

    def test_its_gain_is_what_gain_tells(self):
        numbers = drawn(32)
        for turn in range(24):
            made = [game(*drawn_game(numbers, 100)) for one in range(2 + turn % 3)]
            n = 1 + turn % 4
            told = last(*made, best(n))
            with self.subTest(made=made, n=n):
                self.assertEqual(last(*made, gain(*told[:n]))[1:3], told[n:])

    def test_heeds_the_games_there_are_now(self):
        told = ask(game(2, 1, 1, 1), game(3, 2, 2, 2), best(1), DROP, best(1), game(4, 3, 3, 3), best(2))
        self.assertEqual([told[2], told[4], told[6]], [[1, 1, 3], [0, 0, 1], [1, 1, 1, 2]])

    def test_what_one_has_does_not_matter(self):
        for begun in ([], [have(1)], [have(2)], [have(1000000)], [play(0, 0)], [play(0, 0)] * 2):
            with self.subTest(begun=begun):
                told = last(game(*EVEN), game(*UNEVEN), *begun, best(4))
                self.assertEqual(told, [0, 0, 1, 1, 4, 163])

    def test_changes_nothing(self):
        told = ask(game(*EVEN), game(*UNEVEN), have(7), SHOWS, best(3), SHOWS, best(3))
        self.assertEqual(told[5], told[3])
        self.assertEqual(told[6], told[4])


class Refused(unittest.TestCase):

    def test_n_is_not_1_to_4(self):
        for n in (0, 5, 6, 9, TOP):
            for games in range(1, 5):
                with self.subTest(n=n, games=games):
                    told = ask(*[game(*EVEN)] * games, have(3), SHOWS, best(n), SHOWS, best(1))
                    self.assertEqual(told[-3], [-1])
                    self.assertEqual(told[-2], told[-4])
                    self.assertEqual(told[-1], [0, 0, 1])

    def test_no_game(self):
        for n in (1, 2, 3, 4):
            with self.subTest(n=n):
                self.assertEqual(ask(have(3), best(n), SHOWS), [[0], [-2], [0, 3]])

    def test_both_is_refused_with_what_is_told_first(self):
        for n in (0, 5, TOP):
            with self.subTest(n=n):
                self.assertEqual(ask(have(3), best(n), SHOWS), [[0], [-2], [0, 3]])

    def test_no_game_any_longer(self):
        self.assertEqual(ask(game(*EVEN), best(2), DROP, best(2), best(5))[1:], [[0, 0, 0, 1], [0], [-2], [-2]])


if __name__ == "__main__":
    unittest.main()
