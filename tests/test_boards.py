"""D2: each lamp is what the highest show that speaks of it says, or what it was switched to; and D5 of begin."""

import unittest

from support import (
    ALL_LAMPS, BASE, LIT, STANDING, TABLE, TICK, all_off, ask_begun, begin, find, judge, level, shows, start, stop,
    stop_all, switch_off, switch_on, ticks,
)

BOOK = (
    "show low on a b c\n"
    "step 2 a b\n"
    "step 1\n"
    "step 3 c\n"
    "show high on b d loop\n"
    "step 1 d\n"
    "step 4 b\n"
    "show dark on a b c d loop\n"
    "step 9\n"
)
LOW, HIGH, DARK = 0, 1, 2
# Lamps' places in TABLE.
A, B, C, D = 0, 7, 8, 63
ALL_ON = switch_on(0, A) + switch_on(0, B) + switch_on(0, C) + switch_on(0, D)


# By a tick that passes: lit is asked of the tick behind it.
def lit_behind(orders, count=1):
    told = ask_begun(TABLE, BOOK, ticks(count, orders), LIT)[1]
    assert told[0] == 0
    return told[1:]


class WhatIsLit(unittest.TestCase):
    def test_nothing(self):
        self.assertEqual(ask_begun(TABLE, BOOK, LIT), [[0]])
        self.assertEqual(lit_behind([]), [])

    def test_lamps_that_are_switched_on(self):
        self.assertEqual(lit_behind(switch_on(0, D) + switch_on(0, A) + switch_on(0, C)), [A, C, D])

    def test_steps_one_after_another(self):
        told = [lit_behind(start(0, 3, LOW), count) for count in range(1, 8)]
        self.assertEqual(told, [[A, B], [], [C], [C], [C], [], []])

    def test_steps_of_a_show_that_loops(self):
        told = [lit_behind(start(0, 3, HIGH), count) for count in range(1, 12)]
        self.assertEqual(told, [[B]] * 4 + [[D]] + [[B]] * 4 + [[D], [B]])

    def test_a_show_hides_the_lamps_it_speaks_of_alone(self):
        self.assertEqual(lit_behind(ALL_ON + start(0, 0, LOW)), [A, B, D])
        self.assertEqual(lit_behind(ALL_ON + start(0, 0, HIGH)), [A, B, C])

    def test_a_step_without_a_lamp_hides_what_is_switched_on(self):
        self.assertEqual(lit_behind(ALL_ON + start(0, 0, LOW), 2), [D])
        self.assertEqual(lit_behind(ALL_ON + start(0, 0, DARK)), [])

    def test_a_show_that_has_ended_hides_nothing(self):
        self.assertEqual(lit_behind(ALL_ON + start(0, 0, LOW), 5), [C, D])
        self.assertEqual(lit_behind(ALL_ON + start(0, 0, LOW), 6), [A, B, C, D])

    def test_the_highest_that_speaks(self):
        for low, high in ((0, 1), (0, 15), (7, 8), (14, 15)):
            self.assertEqual(lit_behind(start(0, low, LOW) + start(0, high, HIGH)), [A, B])
            self.assertEqual(lit_behind(start(0, low, LOW) + start(1, high, HIGH), 2), [B])
            self.assertEqual(lit_behind(start(0, low, LOW) + start(0, high, DARK)), [])
            self.assertEqual(lit_behind(start(0, low, DARK) + start(0, high, LOW)), [A, B])

    def test_the_higher_not_the_later_begun(self):
        self.assertEqual(lit_behind(start(0, 8, DARK) + start(0, 7, LOW)), [])
        self.assertEqual(lit_behind(start(0, 8, DARK) + start(1, 7, LOW), 2), [])

    def test_the_highest_says_lit_or_not(self):
        high_on_top = start(0, 2, LOW) + start(3, 9, HIGH)
        # HIGH has its second step, B, in ticks 4 to 7, and LOW its last, C, in 3 to 5.
        self.assertEqual([lit_behind(high_on_top, count) for count in (4, 5, 6)], [[B, C], [B, C], [B]])
        self.assertEqual(lit_behind(start(0, 2, HIGH) + start(0, 9, LOW), 2), [])
        self.assertEqual(lit_behind(start(0, 2, HIGH) + start(0, 9, LOW), 6), [B])

    def test_a_lamp_that_a_higher_show_does_not_speak_of(self):
        self.assertEqual(lit_behind(start(0, 1, LOW) + start(0, 2, HIGH)), [A, B])
        self.assertEqual(lit_behind(start(0, 1, LOW) + start(0, 2, HIGH), 3), [B, C])

    def test_a_lamp_of_which_no_show_speaks(self):
        self.assertEqual(lit_behind(start(0, 1, LOW)), [A, B])
        self.assertEqual(lit_behind(switch_on(0, D) + start(0, 1, LOW)), [A, B, D])

    def test_three_levels(self):
        orders = ALL_ON + start(0, 4, HIGH) + start(0, 5, LOW) + start(0, 6, DARK)
        self.assertEqual(lit_behind(orders, 5), [])
        self.assertEqual(lit_behind(orders + stop(4, 6), 5), [C, D])
        self.assertEqual(lit_behind(orders + stop(4, 6) + stop(4, 5), 5), [A, C, D])
        self.assertEqual(lit_behind(orders + stop(4, 6) + stop(4, 4), 5), [C, D])

    def test_one_show_on_two_levels(self):
        self.assertEqual(lit_behind(start(0, 1, LOW) + start(2, 2, LOW), 3), [A, B])
        self.assertEqual(lit_behind(start(0, 2, LOW) + start(2, 1, LOW), 3), [C])

    def test_lit_changes_nothing(self):
        told = ask_begun(TABLE, BOOK, ticks(1, switch_on(0, D) + start(0, 4, LOW)), *STANDING * 2)[1:]
        self.assertEqual(told[:len(STANDING)], told[len(STANDING):])
        self.assertEqual(told[0], [0, A, B, D])

    def test_every_lamp_by_itself(self):
        book = "show none on l0\nstep 1\n"
        for place in range(64):
            told = ask_begun(ALL_LAMPS, book, ticks(8, switch_on(0, place)), LIT, BASE)
            rows = [0] * 8
            rows[place // 8] = 2 ** (place % 8)
            self.assertEqual(told, [[0] + rows + [0], [0, place], [0, place]])

    def test_every_lamp_by_a_show(self):
        for place in range(64):
            book = f"show x on l{place}\nstep 8 l{place}\nstep 1\n"
            told = ask_begun(ALL_LAMPS, book, ticks(8, start(0, 0, 0)), LIT, BASE)
            rows = [0] * 8
            rows[place // 8] = 2 ** (place % 8)
            self.assertEqual(told, [[0] + rows + [0], [0], [0]])


class BeginOverWhatRuns(unittest.TestCase):
    def setUp(self):
        self.orders = switch_on(0, C) + switch_on(0, A) + start(0, 2, HIGH) + start(1, 15, LOW) + switch_off(2, A)

    def ask_behind(self, *calls):
        return ask_begun(TABLE, BOOK, ticks(3, self.orders), *calls)[1:]

    def test_what_stands(self):
        told = self.ask_behind(LIT, level(2), level(15), level(3), BASE, TICK)
        self.assertEqual(told, [[0], [0, 2, 3], [0, 1, 2], [0, 0, 0], [0, C], [0, 3]])

    def test_a_refused_begin_leaves_all_as_it_was(self):
        for refused in (begin("x" * 16385, BOOK), begin("", BOOK), begin(TABLE, "show")):
            told = self.ask_behind(*STANDING, refused, *STANDING, ticks(9))
            self.assertLess(told[len(STANDING)][0], 0)
            self.assertEqual(told[:len(STANDING)], told[len(STANDING) + 1:-1])
            self.assertEqual(told[-1], self.ask_behind(ticks(9))[0])

    def test_calls_on_texts_leave_all_as_it_was(self):
        for call in (judge(TABLE, ""), shows(TABLE, BOOK), find(TABLE, BOOK, "low"), find(TABLE, BOOK, "none")):
            told = self.ask_behind(*STANDING, call, *STANDING)
            self.assertEqual(told[:len(STANDING)], told[len(STANDING) + 1:])

    def test_a_second_begin_puts_all_out(self):
        fresh = [[0]] + [[0, 0, 0]] * 16 + [[0], [0, 0]]
        self.assertEqual(ask_begun(TABLE, BOOK, *STANDING), fresh)
        told = self.ask_behind(begin(TABLE, BOOK), *STANDING, ticks(9))
        self.assertEqual(told, [[0]] + fresh + [[0] + [0] * 10])

    def test_a_second_begin_brings_its_own_table_and_book(self):
        book = "show only on l9\nstep 2 l9\n"
        told = self.ask_behind(begin(ALL_LAMPS, book), ticks(2, start(0, 0, 0)), ticks(1, start(0, 0, 1)),
                               ticks(1, switch_on(0, 62)), ticks(6), TICK)
        self.assertEqual(told, [[0], [0, 0, 2, 1, 1, 0], [-1], [0, 0, 0], [0] + [0] * 4 + [64, 0, 0], [0, 9]])


class OrdersPutOut(unittest.TestCase):
    def test_all_off_leaves_what_runs(self):
        told = ask_begun(TABLE, BOOK, ticks(1, ALL_ON + start(0, 0, LOW) + all_off(0)), LIT, BASE, level(0))
        self.assertEqual(told[1:], [[0, A, B], [0], [0, 1, 1]])

    def test_stop_all_leaves_what_is_switched_on(self):
        orders = ALL_ON + start(0, 0, LOW) + start(0, 15, DARK) + stop_all(0)
        told = ask_begun(TABLE, BOOK, ticks(1, orders), LIT, BASE, level(0), level(15))
        self.assertEqual(told[1:], [[0, A, B, C, D], [0, A, B, C, D], [0, 0, 0], [0, 0, 0]])


if __name__ == "__main__":
    unittest.main()
