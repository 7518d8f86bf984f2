"""Point 3: loses."""

import itertools
import unittest

from tests.lines import (
    DROP, EVEN, EVEN_LESS, SHOWS, UNEVEN, UNEVEN_LESS, ask, gain, game, have, last, loses, play,
)
from tests.reckoned import drawn, expected_gain

WON = (100, 60, 60, 60)
# Each loses alone; the row 0, 1, 1 of these gains just 0.
ROW_OF_0 = ((36, 26, 9, 9), (6, 1, 4, 4))


def expected_loses(games):
    return int(all(expected_gain([one]) < 0 for one in games) and expected_gain(games) > 0)


class Value(unittest.TestCase):

    def test_losing_games_that_win_by_turns(self):
        told = ask(game(*EVEN_LESS), game(*UNEVEN_LESS), loses(0, 1, 1), loses(1, 1, 0), loses(1, 0, 1),
                   loses(0, 1, 1, 0, 1, 1), loses(0, 0, 1, 1), loses(0, 1, 0, 1, 1))
        self.assertEqual(told[2:], [[1]] * 6)

    def test_a_row_that_does_not_win(self):
        told = ask(game(*EVEN_LESS), game(*UNEVEN_LESS), loses(0, 0, 1), loses(0, 1), loses(0, 0, 0, 0, 0, 1))
        self.assertEqual(told[2:], [[0]] * 3)

    def test_a_row_of_one_game(self):
        for one in (EVEN_LESS, UNEVEN_LESS, EVEN, UNEVEN, WON, (100, 99, 99, 99), (100, 1, 1, 1)):
            with self.subTest(game=one):
                told = ask(game(*one), loses(0), loses(0, 0), loses(0, 0, 0, 0, 0, 0))
                self.assertEqual(told[1:], [[0]] * 3)

    def test_fair_games_do_not_lose(self):
        told = ask(game(*EVEN), game(*UNEVEN), gain(0, 1, 1), loses(0, 1, 1), loses(0, 0, 1))
        self.assertEqual(told[2:], [[0, 2416, 35601, 1], [0], [0]])

    def test_one_fair_game_beside_a_losing_one(self):
        for games in ((EVEN, UNEVEN_LESS), (EVEN_LESS, UNEVEN)):
            told = ask(game(*games[0]), game(*games[1]), gain(0, 1, 1), gain(1, 1, 0), loses(0, 1, 1), loses(1, 1, 0))
            with self.subTest(games=games):
                self.assertEqual([told[2][3], told[3][3]], [1, 1])
                self.assertEqual(told[4:], [[0], [0]])

    def test_one_winning_game_in_any_place(self):
        made = [game(*EVEN_LESS), game(*UNEVEN_LESS), game(*WON)]
        for place in range(4):
            row = [0, 1, 1]
            row.insert(place, 2)
            with self.subTest(row=row):
                told = ask(*made, gain(*row), loses(*row))
                self.assertEqual(told[3][3], 1)
                self.assertEqual(told[4], [0])

    def test_a_game_that_is_not_in_the_row_does_not_matter(self):
        made = [game(*WON), game(*EVEN_LESS), game(*UNEVEN_LESS), game(*EVEN)]
        self.assertEqual(ask(*made, loses(1, 2, 2), loses(1, 2, 3))[4:], [[1], [0]])

    def test_a_row_of_losing_games_with_a_gain_of_0(self):
        made = [game(*one) for one in ROW_OF_0]
        told = ask(*made, gain(0), gain(1), gain(0, 1, 1), loses(0, 1, 1))
        self.assertEqual(told[2:5], [[0, -48, 317, 0], [0, -1, 39, 0], [0, 0, 1, 2]])
        self.assertEqual(told[5], [0])
        # A little more at one rest: still each loses, and the row wins.
        told = ask(game(36, 27, 9, 9), game(*ROW_OF_0[1]), gain(0), gain(0, 1, 1), loses(0, 1, 1))
        self.assertEqual([told[2][3], told[3][3], told[4]], [0, 1, [1]])

    def test_a_row_that_wins_very_little(self):
        told = ask(game(10, 1, 6, 8), game(5, 2, 1, 4), gain(0, 1, 1), loses(0, 1, 1))
        self.assertEqual(told[2:], [[0, 1, 18790, 1], [1]])

    def test_every_row_of_two_games(self):
        for games in ((EVEN_LESS, UNEVEN_LESS), (EVEN, UNEVEN), (EVEN_LESS, UNEVEN), (EVEN, UNEVEN_LESS)):
            for length in range(1, 7):
                for row in itertools.product((0, 1), repeat=length):
                    with self.subTest(games=games, row=row):
                        told = last(game(*games[0]), game(*games[1]), loses(*row))
                        self.assertEqual(told, [expected_loses([games[number] for number in row])])

    def test_drawn_games_that_nearly_lose(self):
        numbers = drawn(61)
        seen = [0, 0]
        for turn in range(300):
            v = 40 + next(numbers) % 61
            even = (v, *[v // 2 - next(numbers) % 3 for rest in range(3)])
            uneven = (v, v // 10 - next(numbers) % 2, *[3 * v // 4 - next(numbers) % 3 for rest in range(2)])
            row = (0, 1, 1) if turn % 2 else (1, 0, 1, 1, 0)
            told = last(game(*even), game(*uneven), loses(*row))
            with self.subTest(even=even, uneven=uneven, row=row):
                self.assertEqual(told, [expected_loses([(even, uneven)[number] for number in row])])
            seen[told[0]] += 1
        self.assertGreater(min(seen), 20)

    def test_what_one_has_does_not_matter(self):
        for begun in ([], [have(1)], [have(2)], [have(1000000)], [play(0, 0)], [play(0, 0)] * 2):
            with self.subTest(begun=begun):
                told = ask(game(*EVEN_LESS), game(*UNEVEN_LESS), *begun, loses(0, 1, 1), loses(0, 0, 1))
                self.assertEqual(told[-2:], [[1], [0]])

    def test_changes_nothing(self):
        told = ask(game(*EVEN_LESS), game(*UNEVEN_LESS), have(7), SHOWS, loses(0, 1, 1), SHOWS, loses(0, 1, 1))
        self.assertEqual(told[5], told[3])
        self.assertEqual(told[6], told[4])

    def test_heeds_the_games_there_are_now(self):
        told = ask(game(*EVEN_LESS), game(*UNEVEN_LESS), loses(0, 1, 1), DROP, loses(0, 1, 1), game(*UNEVEN),
                   loses(0, 1, 1))
        self.assertEqual([told[2], told[4], told[6]], [[1], [-2], [0]])


if __name__ == "__main__":
    unittest.main()
