"""Point 1: game, drop, have; and shows."""

import unittest

from tests.lines import DROP, SHOWS, TOP, ask, game, have, last, play


class Game(unittest.TestCase):

    def test_numbers_from_0(self):
        told = ask(game(2, 1, 1, 1), game(20, 2, 15, 15), game(7, 1, 2, 3), game(100, 99, 1, 50), SHOWS)
        self.assertEqual(told[:4], [[0], [1], [2], [3]])
        self.assertEqual(told[4], [4, 0, 2, 1, 1, 1, 20, 2, 15, 15, 7, 1, 2, 3, 100, 99, 1, 50])

    def test_is_shown_as_handed_in_not_in_lowest_terms(self):
        self.assertEqual(last(game(100, 50, 20, 90), SHOWS), [1, 0, 100, 50, 20, 90])

    def test_the_same_game_may_be_made_again(self):
        self.assertEqual(ask(game(3, 1, 2, 1), game(3, 1, 2, 1)), [[0], [1]])

    def test_edges_of_v(self):
        for v, told in ((0, -1), (1, -1), (2, 0), (3, 0), (99, 0), (100, 0), (101, -1), (TOP, -1)):
            with self.subTest(v=v):
                self.assertEqual(ask(game(v, 1, 1, 1))[0], [told])

    def test_v_out_of_bounds_whatever_the_chances(self):
        for chances in ((0, 0, 0), (1, 1, 1), (100, 100, 100), (TOP, TOP, TOP)):
            for v in (0, 1, 101, TOP):
                with self.subTest(v=v, chances=chances):
                    self.assertEqual(ask(game(v, *chances), SHOWS), [[-1], [0, 0]])

    def test_edges_of_each_chance(self):
        for v in (2, 3, 50, 100):
            for u, told in ((0, -1), (1, 0), (v - 1, 0), (v, -1), (v + 1, -1), (TOP, -1)):
                for place in range(3):
                    chances = [1, 1, 1]
                    chances[place] = u
                    with self.subTest(v=v, chances=chances):
                        shown = [1, 0, v, *chances] if told == 0 else [0, 0]
                        self.assertEqual(ask(game(v, *chances), SHOWS), [[told], shown])

    def test_a_fifth_is_refused(self):
        four = [game(10, u, 5, 5) for u in (1, 2, 3, 4)]
        told = ask(*four, SHOWS, game(10, 5, 5, 5), SHOWS)
        self.assertEqual(told[5], [-5])
        self.assertEqual(told[6], told[4])

    def test_a_fifth_that_cannot_be_is_refused_with_what_is_told_first(self):
        four = [game(10, u, 5, 5) for u in (1, 2, 3, 4)]
        for wrong in (game(1, 1, 1, 1), game(101, 1, 1, 1), game(10, 0, 5, 5), game(10, 5, 10, 5), game(10, 5, 5, TOP)):
            with self.subTest(wrong=wrong):
                told = ask(*four, SHOWS, wrong, SHOWS, game(10, 5, 5, 5))
                self.assertEqual(told[5], [-1])
                self.assertEqual(told[6], told[4])
                self.assertEqual(told[7], [-5])

    def test_a_refused_game_takes_no_number(self):
        told = ask(game(2, 1, 1, 1), game(2, 2, 1, 1), game(3, 1, 1, 1), SHOWS)
        self.assertEqual(told, [[0], [-1], [1], [2, 0, 2, 1, 1, 1, 3, 1, 1, 1]])


class Drop(unittest.TestCase):

    def test_the_last_one_is_gone(self):
        told = ask(game(5, 1, 2, 3), game(6, 1, 2, 3), game(7, 1, 2, 3), DROP, SHOWS, DROP, SHOWS, DROP, SHOWS)
        self.assertEqual(told[3:], [[2], [2, 0, 5, 1, 2, 3, 6, 1, 2, 3], [1], [1, 0, 5, 1, 2, 3], [0], [0, 0]])

    def test_with_no_game(self):
        self.assertEqual(ask(DROP, SHOWS), [[-9], [0, 0]])
        self.assertEqual(ask(game(2, 1, 1, 1), DROP, DROP, SHOWS), [[0], [0], [-9], [0, 0]])

    def test_refused_leaves_what_one_has(self):
        self.assertEqual(ask(have(8), DROP, SHOWS), [[0], [-9], [0, 8]])

    def test_leaves_what_one_has(self):
        self.assertEqual(last(have(8), game(2, 1, 1, 1), DROP, SHOWS), [0, 8])

    def test_a_game_made_behind_it(self):
        told = ask(game(5, 1, 2, 3), game(6, 1, 2, 3), DROP, game(8, 3, 2, 1), SHOWS)
        self.assertEqual(told[2:], [[1], [1], [2, 0, 5, 1, 2, 3, 8, 3, 2, 1]])

    def test_makes_room_for_a_fifth(self):
        four = [game(10, u, 5, 5) for u in (1, 2, 3, 4)]
        told = ask(*four, game(10, 9, 9, 9), DROP, game(10, 9, 9, 9), game(10, 8, 8, 8), SHOWS)
        self.assertEqual(told[4:8], [[-5], [3], [3], [-5]])
        self.assertEqual(told[8], [4, 0, 10, 1, 5, 5, 10, 2, 5, 5, 10, 3, 5, 5, 10, 9, 9, 9])


class Have(unittest.TestCase):

    def test_edges(self):
        for x in (0, 1, 2, 3, 999999, 1000000):
            with self.subTest(x=x):
                self.assertEqual(ask(have(x), SHOWS), [[0], [0, x]])

    def test_too_much_is_refused(self):
        for x in (1000001, 1000002, TOP):
            with self.subTest(x=x):
                self.assertEqual(ask(have(5), have(x), SHOWS), [[0], [-1], [0, 5]])

    def test_takes_the_place_of_what_one_had(self):
        self.assertEqual(ask(have(7), have(3), SHOWS, have(0), SHOWS), [[0], [0], [0, 3], [0], [0, 0]])

    def test_leaves_the_games(self):
        told = ask(game(5, 1, 2, 3), have(12), SHOWS, have(1000001), SHOWS)
        self.assertEqual(told, [[0], [0], [1, 12, 5, 1, 2, 3], [-1], [1, 12, 5, 1, 2, 3]])

    def test_behind_a_round(self):
        self.assertEqual(last(game(2, 1, 1, 1), play(0, 0), have(4), SHOWS), [1, 4, 2, 1, 1, 1])


class Shows(unittest.TestCase):

    def test_at_the_beginning(self):
        self.assertEqual(ask(SHOWS), [[0, 0]])

    def test_changes_nothing(self):
        told = ask(game(5, 1, 2, 3), have(9), SHOWS, SHOWS, SHOWS)
        self.assertEqual(told[2:], [[1, 9, 5, 1, 2, 3]] * 3)


if __name__ == "__main__":
    unittest.main()
