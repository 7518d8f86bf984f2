"""The interface: the form of what is handed in and given back, and that nothing is changed or kept."""

import contextlib
import io
import unittest

import losinggames.rounds
from losinggames.rounds import answers
from tests.lines import DROP, SHOWS, TOP, ask, gain, game, have, play

LINE = [
    0, 2, 1, 1, 1,
    0, 20, 2, 15, 15,
    5, 3, 0, 1, 1,
    3, 0, 0,
    4,
    2, 1000001,
    5, 0,
    1,
    5, 9, 0, 1, 2, 3, 4, 5, 6, 7, 8,
    2, 6,
    3, 7, 7,
    4,
]
TOLD = [
    1, 0,
    1, 1,
    4, 0, 2416, 35601, 1,
    2, 0, -1,
    10, 2, -1, 2, 1, 1, 1, 20, 2, 15, 15,
    1, -1,
    1, -2,
    1, 1,
    1, -2,
    1, 0,
    1, -2,
    6, 1, 6, 2, 1, 1, 1,
]

CHANGES = (
    "append", "clear", "extend", "insert", "pop", "remove", "reverse", "sort",
    "__setitem__", "__delitem__", "__iadd__", "__imul__",
)


def refuse_change(*given, **named):
    raise AssertionError("what is handed in is changed")


# A list that can't be changed, so that a change that is taken back is seen too.
Fixed = type("Fixed", (list,), {name: refuse_change for name in CHANGES})


class Form(unittest.TestCase):

    def test_counts_and_numbers_in_order(self):
        self.assertEqual(answers(LINE), TOLD)

    def test_one_call(self):
        self.assertEqual(answers([4]), [2, 0, 0])
        self.assertEqual(answers([1]), [1, -9])
        self.assertEqual(answers([2, 1000000]), [1, 0])
        self.assertEqual(answers([0, 2, 1, 1, 1]), [1, 0])
        self.assertEqual(answers([3, 0, 1]), [1, -2])
        self.assertEqual(answers([5, 0]), [1, -2])

    def test_numbers_like_calls_are_no_calls(self):
        told = answers([0, 5, 4, 4, 4, 2, 4, 3, 0, 1, 5, 4, 0, 0, 0, 0, 5, 9, 4, 4, 4, 4, 4, 4, 4, 4, 4, 4])
        self.assertEqual(told, [1, 0, 1, 0, 2, 0, 5, 4, 0, 3, 5, 1, 1, -2, 6, 1, 5, 5, 4, 4, 4])

    def test_is_a_list_of_whole_numbers(self):
        told = answers(list(LINE))
        self.assertIs(type(told), list)
        self.assertEqual({type(number) for number in told}, {int})

    def test_forty_calls(self):
        calls = [game(100, 99, 1, 50)] * 4 + [game(TOP, TOP, TOP, TOP)] * 25 + [gain(3, 2, 1, 0, 1, 2)] * 10 + [SHOWS]
        told = ask(*calls)
        self.assertEqual(told[:29], [[0], [1], [2], [3]] + [[-1]] * 25)
        self.assertEqual(told[29:39], [told[29]] * 10)
        self.assertEqual(told[39], [4, 0] + [100, 99, 1, 50] * 4)

    def test_forty_rounds(self):
        told = ask(game(2, 1, 1, 1), *[play(0, 0)] * 39)
        self.assertEqual(told[1:], [[0, -lost] for lost in range(1, 40)])

    def test_greatest_numbers_everywhere(self):
        told = ask(game(TOP, TOP, TOP, TOP), have(TOP), play(TOP, TOP), gain(*[TOP] * 9), gain(TOP), SHOWS, DROP)
        self.assertEqual(told, [[-1], [-1], [-2], [-2], [-2], [0, 0], [-9]])

    def test_prints_nothing(self):
        out = io.StringIO()
        with contextlib.redirect_stdout(out), contextlib.redirect_stderr(out):
            answers(LINE)
        self.assertEqual(out.getvalue(), "")


class Kept(unittest.TestCase):

    def test_what_is_handed_in_is_not_changed(self):
        line = Fixed(LINE)
        self.assertEqual(answers(line), TOLD)
        self.assertEqual(list(line), LINE)

    def test_a_plain_list_stays_as_it_was(self):
        line = list(LINE)
        answers(line)
        self.assertEqual(line, LINE)

    def test_the_same_twice(self):
        line = list(LINE)
        self.assertEqual(answers(line), answers(line))

    def test_no_table_is_kept(self):
        answers(LINE)
        self.assertEqual(answers([4]), [2, 0, 0])

    def test_what_was_given_back_is_the_callers(self):
        first = answers(LINE)
        first.clear()
        self.assertEqual(answers(LINE), TOLD)

    def test_nothing_at_the_top_of_the_module_changes(self):
        before = repr(sorted(vars(losinggames.rounds).items(), key=lambda pair: pair[0]))
        answers(LINE)
        after = repr(sorted(vars(losinggames.rounds).items(), key=lambda pair: pair[0]))
        self.assertEqual(before, after)


class Refusals(unittest.TestCase):
    """Behind each refusal all is as it was: the line goes on as if the call had not been."""

    def test_a_line_goes_on_as_without_it(self):
        begun = [game(2, 1, 1, 1), game(20, 2, 15, 15), have(3), play(1, 0)]
        rest = [SHOWS, gain(0, 1, 1), play(1, 1), game(7, 1, 2, 3), gain(2, 0), DROP, SHOWS]
        plain = ask(*begun, *rest)
        wrong = [
            (game(1, 1, 1, 1), -1), (game(101, 1, 1, 1), -1), (game(9, 0, 1, 1), -1), (game(9, 1, 1, 9), -1),
            (have(1000001), -1), (have(TOP), -1), (play(2, 1), -2), (play(2, 2), -2), (play(0, 2), -1),
            (gain(), -2), (gain(2), -2), (gain(0, 1, 2), -2), (gain(*[0] * 7), -2), (gain(*[1] * 9), -2),
        ]
        for call, number in wrong:
            with self.subTest(call=call):
                told = ask(*begun, call, *rest)
                self.assertEqual(told.pop(len(begun)), [number])
                self.assertEqual(told, plain)

    def test_a_refused_fifth_game(self):
        four = [game(10, u, 5, 5) for u in (1, 2, 3, 4)]
        rest = [SHOWS, gain(0, 1, 2, 3), play(3, 1), DROP, game(10, 9, 9, 9), gain(3), SHOWS]
        told = ask(*four, game(10, 7, 7, 7), *rest)
        self.assertEqual(told.pop(4), [-5])
        self.assertEqual(told, ask(*four, *rest))

    def test_a_refused_drop(self):
        rest = [SHOWS, game(2, 1, 1, 1), SHOWS, DROP]
        told = ask(have(5), DROP, *rest)
        self.assertEqual(told.pop(1), [-9])
        self.assertEqual(told, ask(have(5), *rest))


if __name__ == "__main__":
    unittest.main()
