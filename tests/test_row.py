"""Point 3: what a row must be, for each call that has one."""

import unittest

from tests.lines import (
    DROP, EVEN_LESS, SHOWS, TOP, UNEVEN_LESS, after, ask, chance, gain, game, last, loses, play, rests,
)


def after_3(*row):
    return after(3, *row)


def after_none(*row):
    return after(0, *row)


def chance_3(*row):
    return chance(3, 1, *row)


def chance_of_too_much(*row):
    return chance(30, TOP, *row)


CALLS = (gain, rests, after_3, after_none, chance_3, chance_of_too_much, loses)
BEGUN = [game(*EVEN_LESS), game(*UNEVEN_LESS), play(1, 0), play(1, 0)]


class Refused(unittest.TestCase):

    def check(self, row):
        for call in CALLS:
            with self.subTest(call=call.__name__, row=row):
                told = ask(*BEGUN, SHOWS, call(0, 1, 1), call(*row), SHOWS, call(0, 1, 1))
                self.assertEqual(told[6:], [[-2], told[4], told[5]])
                self.assertGreaterEqual(told[5][0], 0)

    def test_an_empty_row(self):
        self.check(())

    def test_a_row_too_long(self):
        for length in (7, 8, 9):
            self.check((0,) * length)
            self.check((1,) * length)
            self.check((TOP,) * length)

    def test_a_game_that_there_is_not(self):
        for number in (2, 3, 4, TOP):
            for row in ((number,), (number, 0), (0, number), (0, number, 1), (0, 1, 0, 1, 0, number), (number,) * 6):
                self.check(row)

    def test_number_4_of_4_games(self):
        made = [game(*EVEN_LESS)] * 4
        for call in CALLS:
            with self.subTest(call=call.__name__):
                told = ask(*made, call(4), call(0, 4), call(3), call(3, 2, 1, 0))
                self.assertEqual(told[4:6], [[-2], [-2]])
                self.assertGreaterEqual(min(told[6][0], told[7][0]), 0)

    def test_a_game_that_no_longer_is(self):
        for call in CALLS:
            with self.subTest(call=call.__name__):
                told = ask(*BEGUN, call(0, 1, 1), call(1), call(0), DROP, call(0, 1, 1), call(1), call(0))
                self.assertEqual(told[8:10], [[-2], [-2]])
                self.assertEqual(told[10], told[6])
                self.assertGreaterEqual(min(told[4][0], told[5][0], told[6][0]), 0)

    def test_no_game_at_all(self):
        for call in CALLS:
            for row in ((), (0,), (0, 0), (TOP,), (0,) * 6, (0,) * 7, (0,) * 9, (TOP,) * 9):
                with self.subTest(call=call.__name__, row=row):
                    self.assertEqual(ask(call(*row), SHOWS), [[-2], [0, 0]])

    def test_d_above_30_and_no_game(self):
        for d in (31, TOP):
            for row in ((), (0,), (0,) * 9):
                with self.subTest(d=d, row=row):
                    self.assertEqual(ask(after(d, *row), chance(d, 0, *row), SHOWS), [[-2], [-2], [0, 0]])


class Taken(unittest.TestCase):

    def test_a_row_of_1_to_6(self):
        for call in CALLS:
            for length in range(1, 7):
                for number in (0, 1):
                    with self.subTest(call=call.__name__, length=length, number=number):
                        self.assertGreaterEqual(last(*BEGUN, call(*[number] * length))[0], 0)


if __name__ == "__main__":
    unittest.main()
