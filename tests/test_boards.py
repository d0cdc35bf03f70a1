"""D2, as far as lit tells it, and D5 of begin: boards on which shows run and lamps are switched on."""

import unittest

from lampshows.boards import Run, lit_lamps
from lampshows.calls import read_calls
from lampshows.lamps import Machine, answer
from support import LIT, TABLE, begin, judge

BOOK = (
    "show low on a b c\n"
    "step 2 a b\n"
    "step 1\n"
    "step 3 c\n"
    "show high on b d loop\n"
    "step 1 d\n"
    "step 4 b\n"
)
# Lamps' places in TABLE.
A, B, C, D = 0, 7, 8, 63


class BoardCase(unittest.TestCase):
    def setUp(self):
        self.machine = Machine()
        self.assertEqual(self.ask(begin(TABLE, BOOK)), [0])

    def ask(self, call):
        return answer(self.machine, read_calls(call)[0])

    def run_show(self, level, number, passed=0):
        run = Run(self.machine.board.book.shows[number])
        run.passed += passed
        self.machine.board.levels[level] = run

    def switch_on(self, *lamps):
        for lamp in lamps:
            self.machine.board.switched[lamp] = True

    def lit(self):
        told = self.ask(LIT)
        self.assertEqual(told[0], 0)
        return told[1:]


class WhatIsLit(BoardCase):
    def test_sixteen_levels(self):
        self.assertEqual(self.machine.board.levels, [None] * 16)

    def test_nothing(self):
        self.assertEqual(self.lit(), [])

    def test_lamps_that_are_switched_on(self):
        self.switch_on(D, A, C)
        self.assertEqual(self.lit(), [A, C, D])

    def test_steps_one_after_another(self):
        told = []
        for passed in range(6):
            self.run_show(3, 0, passed)
            told.append(self.lit())
        self.assertEqual(told, [[A, B], [A, B], [], [C], [C], [C]])

    def test_a_show_hides_the_lamps_it_speaks_of_alone(self):
        self.switch_on(A, B, C, D)
        self.run_show(0, 0, 2)
        self.assertEqual(self.lit(), [D])

    def test_the_highest_that_speaks(self):
        for low, high in ((0, 1), (0, 15), (7, 8), (14, 15)):
            self.machine.board.levels = [None] * 16
            self.run_show(low, 0)
            self.run_show(high, 1)
            self.assertEqual(self.lit(), [A, D])

    def test_the_other_way_round(self):
        self.run_show(0, 1)
        self.run_show(15, 0)
        self.assertEqual(self.lit(), [A, B, D])

    def test_one_show_on_two_levels(self):
        self.run_show(1, 0, 3)
        self.run_show(2, 0, 0)
        self.assertEqual(self.lit(), [A, B])

    def test_lit_changes_nothing(self):
        self.switch_on(D)
        self.run_show(4, 0, 1)
        self.assertEqual([self.lit(), self.lit()], [[A, B, D]] * 2)
        self.assertEqual(self.machine.board.levels[4].passed, 1)


class BeginOverWhatRuns(BoardCase):
    def setUp(self):
        BoardCase.setUp(self)
        self.switch_on(C)
        self.run_show(2, 1)

    def test_a_refused_begin_leaves_all_as_it_was(self):
        for refused in (begin("x" * 16385, BOOK), begin("", BOOK), begin(TABLE, "show")):
            board = self.machine.board
            self.assertLess(self.ask(refused)[0], 0)
            self.assertIs(self.machine.board, board)
            self.assertEqual(self.lit(), [C, D])

    def test_judge_leaves_all_as_it_was(self):
        self.assertEqual(self.ask(judge(TABLE, "")), [0])
        self.assertEqual(self.lit(), [C, D])

    def test_a_second_begin_puts_all_out(self):
        self.assertEqual(self.ask(begin(TABLE, BOOK)), [0])
        self.assertEqual(self.lit(), [])
        self.assertEqual(lit_lamps(self.machine.board), [])


if __name__ == "__main__":
    unittest.main()
