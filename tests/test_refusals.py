"""D5: what is refused, with which number, and that all is as it was."""

import unittest

from support import (
    BASE, LIT, STANDING, TABLE, TICK, all_off, ask, ask_begun, begin, level, start, stop, stop_all, switch_off,
    switch_on, ticks,
)

BOOK = (
    "show one on a b\n"
    "step 3 a\n"
    "step 9 b\n"
    "show two on b c d loop\n"
    "step 2 b d\n"
    "step 2 c\n"
)
# Lamps' places in TABLE, and some that it hasn't.
A, B, C, D = 0, 7, 8, 63
NO_LAMPS = (1, 6, 9, 62, 64, 71, 4294967295)
MOST = 4294967295
BEFORE = start(0, 2, 0) + switch_on(0, C) + start(1, 15, 1) + start(1, 0, 1) + switch_on(1, A) + switch_on(2, D)


def begun(*calls):
    return ask_begun(TABLE, BOOK, ticks(5, BEFORE), *calls)[1:]


class RefusalCase(unittest.TestCase):
    def setUp(self):
        self.standing = begun(*STANDING)
        self.going_on = begun(ticks(20))

    def refused(self, number, call):
        told = begun(*STANDING, call, *STANDING, ticks(20))
        count = len(STANDING)
        self.assertEqual(told[count], [number], call[:20])
        self.assertEqual(told[:count], self.standing, call[:20])
        self.assertEqual(told[count + 1:-1], self.standing, call[:20])
        self.assertEqual(told[-1:], self.going_on, call[:20])

    def right(self, call):
        self.assertEqual(begun(call)[0][0], 0, call[:20])


class NothingBegun(unittest.TestCase):
    CALLS = [LIT, ticks(0), ticks(1, switch_on(0, A)), ticks(4097), ticks(MOST, [9, 9, 9, 9]), ticks(1, [1, 6, 16, 0]),
             ticks(1, [0, 0, 0, 0] * 4097), level(0), level(15), level(16), level(MOST), BASE, TICK]

    def test_each_call(self):
        for call in self.CALLS:
            self.assertEqual(ask(*STANDING, call, *STANDING), [[-10]] * (2 * len(STANDING) + 1))

    def test_one_behind_another(self):
        self.assertEqual(ask(*self.CALLS), [[-10]] * len(self.CALLS))

    def test_a_refused_begin_begins_nothing(self):
        told = ask(begin("", BOOK), *self.CALLS, begin(TABLE, "show"), *self.CALLS)
        self.assertEqual(told[0], [-8])
        self.assertEqual(told[len(self.CALLS) + 1], [-6, 1, 4])
        self.assertEqual(told.count([-10]), 2 * len(self.CALLS))

    def test_what_was_refused_has_left_nothing(self):
        told = ask(ticks(1, switch_on(0, A)), begin(TABLE, BOOK), LIT, BASE, TICK)
        self.assertEqual(told, [[-10], [0], [0], [0], [0, 0]])


class TooMuch(RefusalCase):
    def test_ticks(self):
        self.right(ticks(4096))
        for count in (4097, 4098, 65536, MOST):
            self.refused(-2, ticks(count))
            self.refused(-2, ticks(count, switch_on(0, A)))

    def test_orders(self):
        self.right(ticks(1, switch_on(0, A) * 4096))
        self.right(ticks(4096, switch_on(0, A) * 4096))
        for count in (4097, 5000):
            self.refused(-2, ticks(1, switch_on(0, A) * count))
            self.refused(-2, ticks(4096, switch_on(0, A) * count))

    def test_before_orders_that_are_not_right(self):
        self.refused(-2, ticks(4097, [0, 6, 0, 0]))
        self.refused(-2, ticks(MOST, [MOST, 0, 0, 0]))
        self.refused(-2, ticks(0, switch_on(0, A) * 4097))
        self.refused(-2, ticks(4097, [0, 6, 0, 0] * 4097))
        self.refused(-2, ticks(1, [0, 6, 0, 0] * 4097))
        self.refused(-1, ticks(4096, [0, 6, 0, 0] * 4096))
        self.refused(-1, ticks(4096, switch_on(0, A) * 4095 + [0, 6, 0, 0]))


class OrdersThatAreNotRight(RefusalCase):
    def test_a_ticks_number_of_n_and_above(self):
        for kind in range(6):
            self.right(ticks(5, [4, kind, 0, 0]))
            for tick in (5, 6, 4096, MOST):
                self.refused(-1, ticks(5, [tick, kind, 0, 0]))

    def test_no_tick_at_all(self):
        self.right(ticks(0))
        self.assertEqual(begun(ticks(0)), [[0, 0]])
        self.refused(-1, ticks(0, switch_on(0, A)))
        self.refused(-1, ticks(0, stop_all(0)))

    def test_a_ticks_number_below_that_of_the_order_before(self):
        self.right(ticks(9, all_off(3) + all_off(3) + all_off(8)))
        self.refused(-1, ticks(9, all_off(3) + all_off(2)))
        self.refused(-1, ticks(9, all_off(0) + all_off(8) + all_off(8) + all_off(7)))
        self.refused(-1, ticks(9, all_off(1) + all_off(0) + all_off(8)))

    def test_kinds(self):
        for kind in range(6):
            self.right(ticks(1, [0, kind, 0, 0]))
        for kind in (6, 7, 16, 255, MOST):
            self.refused(-1, ticks(1, [0, kind, 0, 0]))

    def test_levels(self):
        for on in range(16):
            self.right(ticks(1, start(0, on, 0)))
            self.right(ticks(1, stop(0, on)))
        for on in (16, 17, 64, MOST):
            self.refused(-1, ticks(1, start(0, on, 0)))
            self.refused(-1, ticks(1, stop(0, on)))

    def test_shows(self):
        self.right(ticks(1, start(0, 0, 1)))
        for show in (2, 3, 32, MOST):
            self.refused(-1, ticks(1, start(0, 0, show)))

    def test_a_book_of_no_show(self):
        self.assertEqual(ask_begun(TABLE, "", ticks(1, start(0, 0, 0)), ticks(1, stop(0, 0)), TICK),
                         [[-1], [0, 0, 0], [0, 1]])

    def test_lamps(self):
        for place in (A, B, C, D):
            self.right(ticks(1, switch_on(0, place)))
            self.right(ticks(1, switch_off(0, place)))
        for place in NO_LAMPS:
            self.refused(-1, ticks(1, switch_on(0, place)))
            self.refused(-1, ticks(1, switch_off(0, place)))

    def test_a_table_of_no_lamp(self):
        table = TABLE.replace("lamp a at 0\nlamp b at 7\nlamp c at 8\nlamp d at 63\n", "")
        self.assertEqual(ask_begun(table, "", ticks(1, switch_on(0, 0)), ticks(1, all_off(0)), LIT, BASE),
                         [[-1], [0, 0, 0], [0], [0]])

    def test_what_has_to_be_nought(self):
        for other in (1, 7, 15, MOST):
            self.refused(-1, ticks(1, [0, 1, 0, other]))
            self.refused(-1, ticks(1, [0, 2, other, A]))
            self.refused(-1, ticks(1, [0, 3, other, A]))
            for kind in (4, 5):
                self.refused(-1, ticks(1, [0, kind, other, 0]))
                self.refused(-1, ticks(1, [0, kind, 0, other]))

    def test_a_fault_in_the_last_order_alone(self):
        right = [all_off(0), stop_all(0), start(1, 3, 0), start(1, 2, 1), switch_on(1, B), switch_off(2, C), stop(2, 15)]
        faulty = [[8, 0, 0, 0], [1, 2, 0, A], [2, 6, 0, 0], [2, 0, 16, 0], [2, 1, 16, 0], [2, 0, 0, 2], [2, 2, 0, 1],
                  [2, 3, 0, 64], [2, 1, 3, 1], [2, 2, 1, A], [2, 4, 0, 1], [2, 4, 1, 0], [2, 5, 0, 1], [2, 5, 1, 0]]
        self.right(ticks(8, sum(right, [])))
        for last in faulty:
            self.refused(-1, ticks(8, sum(right, []) + last))

    def test_a_fault_in_the_first_order_alone(self):
        self.refused(-1, ticks(8, [0, 6, 0, 0] + all_off(0) + stop_all(7)))


class WrongLevels(RefusalCase):
    def test_above_fifteen(self):
        self.right(level(15))
        for on in (16, 17, 4096, MOST):
            self.refused(-1, level(on))


if __name__ == "__main__":
    unittest.main()
