"""Point 4: mix."""

import itertools
import unittest

from tests.lines import (
    DROP, EVEN, EVEN_LESS, SHOWS, TOP, UNEVEN, UNEVEN_LESS, ask, gain, game, have, last, mix, play, told_as_gain,
)
from tests.reckoned import drawn, drawn_game, expected_mix

SOME = ((100, 99, 1, 50), (7, 1, 6, 3), (2, 1, 1, 1), (99, 2, 97, 55))


class Value(unittest.TestCase):

    def test_a_known_mix_of_two_fair_games(self):
        self.assertEqual(last(game(*EVEN), game(*UNEVEN), mix(1, 1)), [0, 18, 709, 1])

    def test_a_mix_of_losing_games_wins(self):
        told = ask(game(*EVEN_LESS), game(*UNEVEN_LESS), mix(1, 0), mix(0, 1), mix(1, 1), mix(9, 1))
        self.assertEqual(told[2], [0, -1, 50, 0])
        self.assertEqual(told[3], [0, -1529, 87950, 0])
        self.assertEqual(told[4][3], 1)
        self.assertEqual(told[5][3], 0)
        for part, weights in zip(told[4:], ((1, 1), (9, 1))):
            self.assertEqual(part, told_as_gain(expected_mix([EVEN_LESS, UNEVEN_LESS], weights)))

    def test_above_0_of_0_and_below(self):
        made = [game(5, 4, 4, 4), game(5, 1, 1, 1)]
        told = ask(*made, mix(1, 1), mix(3, 3), mix(2, 1), mix(1, 2), mix(9, 1), mix(0, 4))
        self.assertEqual(told[2:], [
            [0, 0, 1, 2], [0, 0, 1, 2], [0, 1, 5, 1], [0, -1, 5, 0], [0, 12, 25, 1], [0, -3, 5, 0],
        ])

    def test_games_of_different_v(self):
        # Chances 1/3 and 1/4, as often: 7/24, which wins 7/12 - 1 by a round.
        self.assertEqual(last(game(3, 1, 1, 1), game(4, 1, 1, 1), mix(1, 1)), [0, -5, 12, 0])
        # Chances 1/3 twice and 1/4 once: 11/36.
        self.assertEqual(last(game(3, 1, 1, 1), game(4, 1, 1, 1), mix(2, 1)), [0, -7, 18, 0])
        # The same chance told by another v is the same game, whatever the weights.
        told = ask(game(3, 1, 2, 1), game(99, 33, 66, 33), gain(0), mix(1, 1), mix(9, 2), mix(0, 5))
        self.assertEqual(told[3:], [told[2]] * 3)

    def test_one_game_alone(self):
        for one in SOME + (EVEN, UNEVEN, EVEN_LESS, UNEVEN_LESS):
            told = ask(game(*one), gain(0), mix(1), mix(2), mix(9))
            with self.subTest(game=one):
                self.assertEqual(told[2:], [told[1]] * 3)

    def test_a_weight_of_0_beside_others(self):
        made = [game(*one) for one in SOME]
        for place in range(4):
            weights = [0, 0, 0, 0]
            weights[place] = 3
            with self.subTest(weights=weights):
                told = ask(*made, gain(place), mix(*weights))
                self.assertEqual(told[5], told[4])
        told = ask(*made, mix(2, 0, 5, 0), mix(0, 2, 0, 5))
        self.assertEqual(told[4], told_as_gain(expected_mix([SOME[0], SOME[2]], (2, 5))))
        self.assertEqual(told[5], told_as_gain(expected_mix([SOME[1], SOME[3]], (2, 5))))

    def test_weights_doubled_gain_the_same(self):
        made = [game(*one) for one in SOME]
        for weights in ((1, 2, 3, 4), (4, 0, 1, 0), (0, 0, 0, 1), (4, 4, 4, 4), (3, 1, 4, 1)):
            doubled = [2 * weight for weight in weights]
            with self.subTest(weights=weights):
                told = ask(*made, mix(*weights), mix(*doubled))
                self.assertEqual(told[5], told[4])

    def test_each_weight_is_of_its_own_game(self):
        made = [game(*one) for one in SOME]
        for weights in itertools.permutations((1, 2, 4, 9)):
            with self.subTest(weights=weights):
                told = last(*made, mix(*weights))
                self.assertEqual(told, told_as_gain(expected_mix(SOME, weights)))

    def test_every_weight_of_two_games(self):
        for games in ((EVEN, UNEVEN), (EVEN_LESS, UNEVEN_LESS), ((3, 1, 2, 1), (100, 99, 1, 50))):
            for weights in itertools.product(range(10), repeat=2):
                if sum(weights) == 0:
                    continue
                with self.subTest(games=games, weights=weights):
                    told = last(game(*games[0]), game(*games[1]), mix(*weights))
                    self.assertEqual(told, told_as_gain(expected_mix(games, weights)))

    def test_drawn_games_and_weights(self):
        numbers = drawn(21)
        signs = {0: 0, 1: 0, 2: 0}
        for turn in range(200):
            games = [drawn_game(numbers, 7 if turn % 2 else 100) for made in range(1 + turn % 4)]
            weights = [next(numbers) % 10 for one in games]
            if sum(weights) == 0:
                continue
            with self.subTest(games=games, weights=weights):
                told = last(*[game(*one) for one in games], mix(*weights))
                self.assertEqual(told, told_as_gain(expected_mix(games, weights)))
                signs[told[3]] += 1
        self.assertGreater(min(signs[0], signs[1]), 20)

    def test_heeds_the_games_there_are_now(self):
        told = ask(game(*EVEN), game(*UNEVEN), DROP, mix(1), game(4, 3, 3, 3), mix(0, 1))
        self.assertEqual(told[3], [0, 0, 1, 2])
        self.assertEqual(told[5], [0, 1, 2, 1])

    def test_what_one_has_does_not_matter(self):
        for begun in ([], [have(1)], [have(2)], [have(1000000)], [play(0, 0)], [play(0, 0)] * 2):
            with self.subTest(begun=begun):
                self.assertEqual(last(game(*EVEN), game(*UNEVEN), *begun, mix(1, 1)), [0, 18, 709, 1])

    def test_changes_nothing(self):
        told = ask(game(*EVEN), game(*UNEVEN), have(7), SHOWS, mix(1, 3), SHOWS, mix(1, 3))
        self.assertEqual(told[5], told[3])
        self.assertEqual(told[6], told[4])


class Refused(unittest.TestCase):

    def check(self, weights):
        with self.subTest(weights=weights):
            told = ask(game(*EVEN), game(*UNEVEN), have(4), SHOWS, mix(*weights), SHOWS, mix(1, 1))
            self.assertEqual(told[4], [-2])
            self.assertEqual(told[5], told[3])
            self.assertEqual(told[6], [0, 18, 709, 1])

    def test_fewer_or_more_weights_than_games(self):
        for count in (0, 1, 3, 4, 5, 8, 9):
            self.check((1,) * count)
            self.check((0,) * count)
            self.check((9,) * count)
            self.check((TOP,) * count)

    def test_as_many_weights_as_there_are_games(self):
        for games in range(1, 5):
            for count in range(10):
                told = last(*[game(*EVEN)] * games, mix(*[1] * count))
                with self.subTest(games=games, count=count):
                    self.assertEqual(told, [0, 0, 1, 2] if count == games else [-2])

    def test_more_weights_of_which_the_last_is_0(self):
        self.check((1, 1, 0))

    def test_a_weight_above_9(self):
        for weight in (10, 11, 100, TOP):
            self.check((weight, 1))
            self.check((1, weight))
            self.check((weight, 0))
            self.check((0, weight))
            self.check((weight, weight))

    def test_a_weight_of_9(self):
        told = ask(game(*EVEN), game(*UNEVEN), mix(9, 9), mix(9, 0), mix(0, 9))
        self.assertEqual(told[2:], [[0, 18, 709, 1], [0, 0, 1, 2], [0, 0, 1, 2]])

    def test_all_are_0(self):
        self.check((0, 0))
        for games in range(1, 5):
            with self.subTest(games=games):
                self.assertEqual(last(*[game(*EVEN)] * games, mix(*[0] * games)), [-2])

    def test_no_game(self):
        for weights in ((), (0,), (1,), (9,), (10,), (TOP,), (1, 1), (1,) * 9, (TOP,) * 9):
            with self.subTest(weights=weights):
                self.assertEqual(ask(have(3), mix(*weights), SHOWS), [[0], [-2], [0, 3]])

    def test_no_game_any_longer(self):
        self.assertEqual(ask(game(*EVEN), mix(1), DROP, mix(1), mix())[1:], [[0, 0, 1, 2], [0], [-2], [-2]])

    def test_a_game_more_or_less(self):
        told = ask(game(*EVEN), mix(1), game(*UNEVEN), mix(1), mix(1, 1), DROP, mix(1, 1), mix(1))
        self.assertEqual([part[0] for part in told], [0, 0, 1, -2, 0, 1, -2, 0])


if __name__ == "__main__":
    unittest.main()
