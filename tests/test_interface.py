"""The interface: the form of what is handed in and given back, and that nothing is changed or kept."""

import contextlib
import io
import unittest

import losinggames.reckoning
import losinggames.rounds
from losinggames.rounds import answers
from tests.lines import (
    DROP, EVEN, EVEN_LESS, SHOWS, TOP, UNEVEN_LESS, after, ask, best, chance, gain, game, have, last, loses, mix, play,
    rests,
)

LINE = [
    0, 2, 1, 1, 1,
    0, 20, 2, 15, 15,
    5, 3, 0, 1, 1,
    3, 0, 0,
    4,
    2, 1000001,
    5, 0,
    1,
    5, 9, 0, 1, 2, 3, 4, 5, 6, 7, 8,
    2, 6,
    3, 7, 7,
    4,
    0, 20, 2, 15, 15,
    6, 1, 1,
    7, 2, 1, 1,
    8, 3,
    9, 1, 2, 1, 0,
    10, 2, 0, 1, 0,
    11, 3, 0, 1, 1,
    6, 0,
    7, 3, 1, 1, 1,
    8, 5,
    9, 31, 1, 0,
    10, 31, 4294967295, 1, 0,
    11, 9, 11, 10, 9, 8, 7, 6, 5, 4, 3,
    10, 30, 4294967295, 1, 0,
    4,
]
TOLD = [
    1, 0,
    1, 1,
    4, 0, 2416, 35601, 1,
    2, 0, -1,
    10, 2, -1, 2, 1, 1, 1, 20, 2, 15, 15,
    1, -1,
    1, -2,
    1, 1,
    1, -2,
    1, 0,
    1, -2,
    6, 1, 6, 2, 1, 1, 1,
    1, 1,
    7, 0, 5, 13, 2, 13, 6, 13,
    4, 0, 18, 709, 1,
    5, 0, 1, 1, 2416, 35601,
    3, 0, 26, 5,
    3, 0, 1, 2,
    1, 0,
    1, -2,
    1, -2,
    1, -1,
    1, -1,
    1, -1,
    1, -2,
    3, 0, 0, 1,
    10, 2, 6, 2, 1, 1, 1, 20, 2, 15, 15,
]

CHANGES = (
    "append", "clear", "extend", "insert", "pop", "remove", "reverse", "sort",
    "__setitem__", "__delitem__", "__iadd__", "__imul__",
)


def refuse_change(*given, **named):
    raise AssertionError("what is handed in is changed")


# A list that can't be changed, so that a change that is taken back is seen too.
Fixed = type("Fixed", (list,), {name: refuse_change for name in CHANGES})


class Form(unittest.TestCase):

    def test_counts_and_numbers_in_order(self):
        self.assertEqual(answers(LINE), TOLD)

    def test_one_call(self):
        self.assertEqual(answers([4]), [2, 0, 0])
        self.assertEqual(answers([1]), [1, -9])
        self.assertEqual(answers([2, 1000000]), [1, 0])
        self.assertEqual(answers([0, 2, 1, 1, 1]), [1, 0])
        self.assertEqual(answers([3, 0, 1]), [1, -2])
        self.assertEqual(answers([5, 0]), [1, -2])
        self.assertEqual(answers([6, 0]), [1, -2])
        self.assertEqual(answers([7, 0]), [1, -2])
        self.assertEqual(answers([8, 1]), [1, -2])
        self.assertEqual(answers([9, 0, 0]), [1, -2])
        self.assertEqual(answers([10, 0, 0, 0]), [1, -2])
        self.assertEqual(answers([11, 0]), [1, -2])

    def test_what_each_call_gives_back(self):
        begun = [game(*EVEN_LESS), game(*UNEVEN_LESS), have(2), play(0, 1)]
        forms = (
            (game(2, 1, 1, 1), 1), (DROP, 1), (have(5), 1), (play(1, 0), 2), (SHOWS, 10), (gain(0, 1, 1), 4),
            (rests(0, 1, 1), 7), (mix(2, 3), 4), (best(1), 3), (best(2), 4), (best(3), 5), (best(4), 6),
            (after(30, 0, 1, 1), 3), (chance(30, 4, 0, 1, 1), 3), (chance(30, 5, 0, 1, 1), 3), (loses(0, 1, 1), 1),
            (loses(0), 1),
        )
        for call, count in forms:
            with self.subTest(call=call):
                told = last(*begun, call)
                self.assertEqual(len(told), count)
                self.assertGreaterEqual(told[0], 0)

    def test_numbers_like_calls_are_no_calls(self):
        told = answers([0, 5, 4, 4, 4, 2, 4, 3, 0, 1, 5, 4, 0, 0, 0, 0, 5, 9, 4, 4, 4, 4, 4, 4, 4, 4, 4, 4])
        self.assertEqual(told, [1, 0, 1, 0, 2, 0, 5, 4, 0, 3, 5, 1, 1, -2, 6, 1, 5, 5, 4, 4, 4])

    def test_numbers_like_calls_are_no_calls_of_the_later_ones(self):
        line = [0, 10, 5, 5, 5, 8, 1, 9, 10, 1, 0, 10, 10, 10, 1, 0, 7, 1, 8, 6, 9] + [6] * 9 + [11, 1, 0, 4]
        told = [1, 0, 3, 0, 0, 1, 3, 0, 0, 1, 3, 0, 1, 1024, 4, 0, 0, 1, 2, 1, -2, 1, 0, 6, 1, 0, 10, 5, 5, 5]
        self.assertEqual(answers(line), told)

    def test_is_a_list_of_whole_numbers(self):
        told = answers(list(LINE))
        self.assertIs(type(told), list)
        self.assertEqual({type(number) for number in told}, {int})

    def test_forty_calls(self):
        calls = [game(100, 99, 1, 50)] * 4 + [game(TOP, TOP, TOP, TOP)] * 25 + [gain(3, 2, 1, 0, 1, 2)] * 10 + [SHOWS]
        told = ask(*calls)
        self.assertEqual(told[:29], [[0], [1], [2], [3]] + [[-1]] * 25)
        self.assertEqual(told[29:39], [told[29]] * 10)
        self.assertEqual(told[39], [4, 0] + [100, 99, 1, 50] * 4)

    def test_forty_calls_of_all_twelve_kinds(self):
        ten = [
            gain(0, 1, 2, 3, 2, 1), best(4), after(30, 3, 2, 1, 0, 1, 2), chance(30, 0, 0, 1, 2, 3, 0, 1), best(3),
            gain(3), after(29, 1), chance(29, 29, 2), best(2), best(1),
        ]
        others = [
            SHOWS, rests(0, 1, 2, 3, 2, 1), mix(9, 8, 7, 6), loses(0, 1, 2, 3, 0, 1), have(1000000), play(3, 1),
            play(0, 0), have(2), rests(2), loses(0, 1, 1), mix(0, 0, 0, 1), DROP, game(97, 1, 50, 96),
        ]
        made = [game(*one) for one in (EVEN_LESS, UNEVEN_LESS, (99, 98, 1, 50), (97, 1, 50, 96))]
        calls = made + others + ten + list(reversed(others))
        self.assertEqual(len(calls), 40)
        self.assertEqual({call[0] for call in calls}, set(range(12)))
        told = ask(*calls)
        counts = {0: 1, 1: 1, 2: 1, 3: 2, 5: 4, 6: 7, 7: 4, 9: 3, 10: 3, 11: 1}
        for call, part in zip(calls, told):
            if call[0] in counts and part[0] >= 0:
                self.assertEqual(len(part), counts[call[0]])
        # Each is answered as it is in a line of its own, on the same table.
        for call, part in zip(ten, told[17:27]):
            self.assertEqual(part, last(*made, have(2), call))
        # The last thirteen begin with a fifth game, which is refused, and a drop, behind which game 3 is none.
        first = [-5, 3, -2, 1, 0, 0, 0, -2, 0, -2, -2, -2, 3]
        self.assertEqual([part[0] for part in told[27:]], first)
        self.assertEqual(told[39], [3, 1000000, *EVEN_LESS, *UNEVEN_LESS, 99, 98, 1, 50])

    def test_forty_calls_with_rows_of_9(self):
        made = [game(100, 99, 1, 50), game(100, 1, 99, 50), game(99, 98, 97, 1), game(97, 96, 1, 1)]
        calls = made + [chance(30, TOP, *[3] * 9)] * 10 + [rests(*[TOP] * 9), loses(*[0] * 9)] * 12
        calls = calls + [mix(*[9] * 9), SHOWS]
        self.assertEqual(len(calls), 40)
        told = ask(*calls)
        self.assertEqual(told[4:39], [[-2]] * 35)

    def test_the_calls_in_any_order(self):
        kinds = [
            game(3, 1, 1, 2), DROP, have(7), play(0, 1), SHOWS, gain(0), rests(0), mix(1), best(2), after(3, 0),
            chance(3, 1, 0), loses(0),
        ]
        for turn in range(12):
            calls = kinds[turn:] + kinds[:turn]
            with self.subTest(turn=turn):
                parts = ask(game(*EVEN), *calls)
                self.assertEqual(len(parts), 13)
                # No answer but a refusal begins below 0, and a refusal is alone.
                for part in parts:
                    self.assertTrue(part[0] >= 0 or len(part) == 1)

    def test_forty_rounds(self):
        told = ask(game(2, 1, 1, 1), *[play(0, 0)] * 39)
        self.assertEqual(told[1:], [[0, -lost] for lost in range(1, 40)])

    def test_greatest_numbers_everywhere(self):
        told = ask(game(TOP, TOP, TOP, TOP), have(TOP), play(TOP, TOP), gain(*[TOP] * 9), gain(TOP), SHOWS, DROP)
        self.assertEqual(told, [[-1], [-1], [-2], [-2], [-2], [0, 0], [-9]])
        later = [
            rests(*[TOP] * 9), mix(*[TOP] * 9), best(TOP), after(TOP, *[TOP] * 9), chance(TOP, TOP, *[TOP] * 9),
            loses(*[TOP] * 9), rests(TOP), mix(TOP), after(0, TOP), after(TOP, 0), chance(TOP, 0, 0),
            chance(0, TOP, TOP), chance(0, TOP, 0), loses(TOP),
        ]
        told = ask(*later, SHOWS)
        self.assertEqual(told, [[-2]] * 14 + [[0, 0]])
        told = ask(game(*EVEN), *later, SHOWS)
        first = [-2, -2, -1, -2, -2, -2, -2, -2, -2, -1, -1, -2]
        self.assertEqual(told[1:], [[number] for number in first] + [[0, 0, 1], [-2], [1, 0, *EVEN]])

    def test_prints_nothing(self):
        out = io.StringIO()
        with contextlib.redirect_stdout(out), contextlib.redirect_stderr(out):
            answers(LINE)
        self.assertEqual(out.getvalue(), "")


class Kept(unittest.TestCase):

    def test_what_is_handed_in_is_not_changed(self):
        line = Fixed(LINE)
        self.assertEqual(answers(line), TOLD)
        self.assertEqual(list(line), LINE)

    def test_a_plain_list_stays_as_it_was(self):
        line = list(LINE)
        answers(line)
        self.assertEqual(line, LINE)

    def test_the_same_twice(self):
        line = list(LINE)
        self.assertEqual(answers(line), answers(line))

    def test_no_table_is_kept(self):
        answers(LINE)
        self.assertEqual(answers([4]), [2, 0, 0])

    def test_what_was_given_back_is_the_callers(self):
        first = answers(LINE)
        first.clear()
        self.assertEqual(answers(LINE), TOLD)

    def test_nothing_at_the_top_of_a_module_changes(self):
        for module in (losinggames.rounds, losinggames.reckoning):
            before = repr(sorted(vars(module).items(), key=lambda pair: pair[0]))
            answers(LINE)
            behind = repr(sorted(vars(module).items(), key=lambda pair: pair[0]))
            self.assertEqual(before, behind)


class Refusals(unittest.TestCase):
    """Behind each refusal all is as it was: the line goes on as if the call had not been."""

    def test_a_line_goes_on_as_without_it(self):
        begun = [game(2, 1, 1, 1), game(20, 2, 15, 15), have(3), play(1, 0)]
        rest = [
            SHOWS, gain(0, 1, 1), after(5, 0, 1), chance(5, 1, 1, 0), rests(1, 0), mix(1, 2), best(3), loses(0, 1, 1),
            play(1, 1), game(7, 1, 2, 3), gain(2, 0), DROP, SHOWS,
        ]
        plain = ask(*begun, *rest)
        wrong = [
            (game(1, 1, 1, 1), -1), (game(101, 1, 1, 1), -1), (game(9, 0, 1, 1), -1), (game(9, 1, 1, 9), -1),
            (have(1000001), -1), (have(TOP), -1), (play(2, 1), -2), (play(2, 2), -2), (play(0, 2), -1),
            (gain(), -2), (gain(2), -2), (gain(0, 1, 2), -2), (gain(*[0] * 7), -2), (gain(*[1] * 9), -2),
            (rests(), -2), (rests(0, 2), -2), (rests(*[0] * 9), -2), (loses(), -2), (loses(2), -2),
            (loses(*[1] * 7), -2), (mix(), -2), (mix(1), -2), (mix(1, 1, 1), -2), (mix(0, 0), -2), (mix(10, 1), -2),
            (mix(1, TOP), -2), (best(0), -1), (best(5), -1), (best(TOP), -1), (after(30), -2), (after(31, 2), -2),
            (after(31, 0), -1), (after(TOP, 0), -1), (chance(30, 0), -2), (chance(31, 0, 2), -2),
            (chance(31, 0, 0), -1), (chance(TOP, TOP, 1), -1),
        ]
        for call, number in wrong:
            with self.subTest(call=call):
                told = ask(*begun, call, *rest)
                self.assertEqual(told.pop(len(begun)), [number])
                self.assertEqual(told, plain)

    def test_a_refused_fifth_game(self):
        four = [game(10, u, 5, 5) for u in (1, 2, 3, 4)]
        rest = [SHOWS, gain(0, 1, 2, 3), play(3, 1), DROP, game(10, 9, 9, 9), gain(3), SHOWS]
        told = ask(*four, game(10, 7, 7, 7), *rest)
        self.assertEqual(told.pop(4), [-5])
        self.assertEqual(told, ask(*four, *rest))

    def test_a_refused_drop(self):
        rest = [SHOWS, game(2, 1, 1, 1), SHOWS, DROP]
        told = ask(have(5), DROP, *rest)
        self.assertEqual(told.pop(1), [-9])
        self.assertEqual(told, ask(have(5), *rest))


if __name__ == "__main__":
    unittest.main()
