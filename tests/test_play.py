"""Point 2: play."""

import unittest

from tests.lines import DROP, SHOWS, TOP, ask, game, have, last, play

MADE = game(7, 1, 2, 3)


class Play(unittest.TestCase):

    def test_won_and_lost(self):
        told = ask(MADE, have(10), play(0, 1), play(0, 1), play(0, 0), SHOWS)
        self.assertEqual(told[2:], [[0, 11], [0, 12], [0, 11], [1, 11, 7, 1, 2, 3]])

    def test_any_game_that_there_is(self):
        told = ask(MADE, MADE, MADE, MADE, play(0, 1), play(1, 1), play(2, 1), play(3, 1))
        self.assertEqual(told[4:], [[0, 1], [0, 2], [0, 3], [0, 4]])

    def test_from_0_down(self):
        told = ask(MADE, play(0, 0), SHOWS, play(0, 0), play(0, 0), play(0, 0), SHOWS, play(0, 1), SHOWS)
        self.assertEqual(told[1:3], [[0, -1], [1, -1, 7, 1, 2, 3]])
        self.assertEqual(told[3:7], [[0, -2], [0, -3], [0, -4], [1, -4, 7, 1, 2, 3]])
        self.assertEqual(told[7:], [[0, -3], [1, -3, 7, 1, 2, 3]])

    def test_from_below_0_up(self):
        self.assertEqual(ask(MADE, play(0, 0), play(0, 1), play(0, 1))[1:], [[0, -1], [0, 0], [0, 1]])

    def test_the_bound_of_have_is_none_of_play(self):
        told = ask(MADE, have(1000000), play(0, 1), SHOWS, have(1000001), SHOWS)
        self.assertEqual(told[2:], [[0, 1000001], [1, 1000001, 7, 1, 2, 3], [-1], [1, 1000001, 7, 1, 2, 3]])

    def test_no_such_game(self):
        for number in (1, 2, 3, 4, TOP):
            for won in (0, 1):
                with self.subTest(number=number, won=won):
                    told = ask(MADE, have(5), play(number, won), SHOWS)
                    self.assertEqual(told[2:], [[-2], [1, 5, 7, 1, 2, 3]])

    def test_no_game_at_all(self):
        self.assertEqual(ask(play(0, 1), play(0, 0), SHOWS), [[-2], [-2], [0, 0]])

    def test_number_4_of_4_games(self):
        self.assertEqual(last(MADE, MADE, MADE, MADE, play(4, 1)), [-2])

    def test_a_game_that_no_longer_is(self):
        told = ask(MADE, MADE, play(1, 1), DROP, play(1, 1), play(0, 1))
        self.assertEqual(told[2:], [[0, 1], [1], [-2], [0, 2]])

    def test_neither_won_nor_lost(self):
        for won in (2, 3, TOP):
            with self.subTest(won=won):
                told = ask(MADE, have(5), play(0, won), SHOWS)
                self.assertEqual(told[2:], [[-1], [1, 5, 7, 1, 2, 3]])

    def test_both_is_refused_with_what_is_told_first(self):
        for number, won in ((1, 2), (TOP, 2), (1, TOP), (TOP, TOP)):
            with self.subTest(number=number, won=won):
                told = ask(MADE, have(5), play(number, won), SHOWS)
                self.assertEqual(told[2:], [[-2], [1, 5, 7, 1, 2, 3]])
        self.assertEqual(ask(play(0, 2)), [[-2]])


if __name__ == "__main__":
    unittest.main()
