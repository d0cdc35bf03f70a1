"""D4: ticks handed over in several calls are as if in one; and the largest lists there are."""

import random
import unittest

from lampshows.lamps import answers
from support import (
    ALL_LAMPS, STANDING, TABLE, TICK, all_off, ask, ask_begun, begin, level, start, stop, stop_all, switch_off,
    switch_on, ticks,
)

EVERY = "".join(f" l{place}" for place in range(64))
EVEN = "".join(f" l{place}" for place in range(0, 64, 2))
BOOK = (
    f"show short on{EVEN}\nstep 3{EVEN}\nstep 1\nstep 4 l0 l8 l16 l24 l32 l40 l48 l56\n"
    "show blink on l1 l2 l10 l19 l28 l37 l46 l55 loop\nstep 1 l1 l10 l28 l46\nstep 1 l2 l19 l37 l55\nstep 5\n"
    f"show full on{EVERY}\nstep 2{EVERY}\n"
    "show slow on l3 l11 l63 loop\nstep 17 l3 l63\nstep 2 l11\nstep 30\n"
    f"show tick on{EVEN} loop\nstep 1{EVEN}\n"
)
SHOWS = 5


def some_orders(dice, count, number):
    """So many right orders over so many ticks."""
    orders = []
    for tick in sorted(dice.randrange(count) for k in range(number)):
        orders.append(dice.choice([
            start(tick, dice.randrange(16), dice.randrange(SHOWS)),
            start(tick, dice.randrange(16), dice.randrange(SHOWS)),
            stop(tick, dice.randrange(16)),
            switch_on(tick, dice.randrange(64)),
            switch_on(tick, dice.randrange(64)),
            switch_off(tick, dice.randrange(64)),
            dice.choice([all_off(tick), stop_all(tick), start(tick, 15, 2)]),
        ]))
    return orders


def piece(orders, first, behind):
    """The call for the ticks from first on, as far as the one before behind."""
    kept = [[order[0] - first] + order[1:] for order in orders if first <= order[0] < behind]
    return ticks(behind - first, sum(kept, []))


def in_pieces(orders, cuts):
    """What ticks told between the cuts, put together, and all that stands behind."""
    calls = [piece(orders, first, behind) for first, behind in zip(cuts, cuts[1:])]
    told = ask_begun(ALL_LAMPS, BOOK, *calls, *STANDING)
    rows = []
    ends = []
    for first, behind, given in zip(cuts, cuts[1:], told):
        count = behind - first
        assert given[0] == 0
        rows += given[1:count + 1]
        assert len(given) == count + 2 + 2 * given[count + 1]
        pairs = given[count + 2:]
        ends += [(first + tick, on) for tick, on in zip(pairs[::2], pairs[1::2])]
    return rows, ends, told[len(calls):]


class InPieces(unittest.TestCase):
    def setUp(self):
        self.dice = random.Random(45)

    def test_cut_into_two_at_every_place(self):
        for number in (3, 40, 150):
            orders = some_orders(self.dice, 130, number)
            whole = in_pieces(orders, [0, 130])
            self.assertEqual(len(whole[0]), 130)
            for cut in range(131):
                self.assertEqual(in_pieces(orders, [0, cut, 130]), whole)

    def test_cut_into_single_ticks(self):
        for number in (0, 3, 40, 150, 400):
            orders = some_orders(self.dice, 250, number)
            self.assertEqual(in_pieces(orders, list(range(251))), in_pieces(orders, [0, 250]))

    def test_cut_into_many_and_into_none(self):
        for turn in range(60):
            orders = some_orders(self.dice, 400, self.dice.randrange(200))
            cuts = sorted([0, 400] + [self.dice.randrange(401) for k in range(self.dice.randrange(30))])
            self.assertEqual(in_pieces(orders, cuts), in_pieces(orders, [0, 400]))

    def test_the_longest(self):
        orders = some_orders(self.dice, 4096, 300)
        whole = in_pieces(orders, [0, 4096])
        self.assertGreater(len(whole[1]), 20)
        for cuts in ([0, 1, 4096], [0, 4095, 4096], list(range(0, 4097, 16)), [0, 7, 2000, 2000, 3001, 4096]):
            self.assertEqual(in_pieces(orders, cuts), whole)

    def test_questions_between_change_nothing(self):
        orders = some_orders(self.dice, 60, 50)
        whole = ask_begun(ALL_LAMPS, BOOK, piece(orders, 0, 30), piece(orders, 30, 60), *STANDING)
        asked = ask_begun(ALL_LAMPS, BOOK, piece(orders, 0, 30), *STANDING, piece(orders, 30, 60), *STANDING)
        self.assertEqual([asked[0]] + asked[len(STANDING) + 1:], whole)


class TheLargest(unittest.TestCase):
    def sixteen(self, show):
        return [number for on in range(16) for number in start(0, on, show)]

    def test_the_most_ticks_on_all_levels(self):
        for count in (1, 12):
            calls = [ticks(4096, self.sixteen(1))] + [ticks(4096)] * (count - 1)
            told = ask_begun(ALL_LAMPS, BOOK, *calls, TICK, *[level(on) for on in range(16)])
            self.assertEqual([len(given) for given in told[:count]], [4098] * count)
            self.assertEqual(told[count:], [[0, 4096 * count]] + [[0, 2, 4096 * count % 7]] * 16)

    def test_the_most_ends(self):
        orders = [number for tick in range(256) for on in range(16) for number in [2 * tick, 0, on, 2]]
        self.assertEqual(len(orders), 4 * 4096)
        told = ask_begun(ALL_LAMPS, BOOK, ticks(4096, orders))[0]
        self.assertEqual(told[1:4097], [255] * 512 + [0] * 3584)
        self.assertEqual(told[4097], 4096)
        self.assertEqual(told[4098:], [number for tick in range(256) for on in range(16) for number in (2 * tick + 1, on)])

    def test_the_most_calls(self):
        calls = begin(ALL_LAMPS, BOOK) + ticks(4096, self.sixteen(4)) + ticks(4096) * 20 + TICK * 278
        told = answers(calls)
        self.assertEqual(told[:2], [1, 0])
        self.assertEqual(told[2:4], [4098, 0])
        self.assertEqual(told[-3:], [2, 0, 21 * 4096])

    def test_the_longest_list(self):
        calls = begin(TABLE, "") + ticks(1, switch_on(0, 63) * 4096)
        calls = calls + ticks(4, switch_off(3, 63) * ((30000 - len(calls) - 3 - 4) // 4)) + TICK * 4
        calls = calls + TICK * (30000 - len(calls))
        self.assertEqual(len(calls), 30000)
        self.assertEqual(answers(calls)[:11], [1, 0, 3, 0, 0, 0, 6, 0, 0, 0, 0])

    def test_what_is_handed_in_stays_and_answers_do_too(self):
        dice = random.Random(7)
        calls = begin(ALL_LAMPS, BOOK)
        for turn in range(5):
            calls += ticks(900, sum(some_orders(dice, 900, 200), [])) + ticks(3, [0, 6, 0, 0]) + sum(STANDING, [])
        kept = list(calls)
        first = answers(calls)
        self.assertEqual(calls, kept)
        second = answers(calls)
        self.assertEqual(calls, kept)
        self.assertEqual(first, second)
        self.assertIs(type(first), list)
        self.assertEqual({type(number) for number in first}, {int})
        self.assertEqual(answers(TICK), [1, -10])

    def test_two_objects_do_not_share(self):
        one = [begin(ALL_LAMPS, BOOK), ticks(9, start(0, 0, 3) + switch_on(0, 4)), *STANDING]
        self.assertEqual(ask(*one, *one)[len(one):], ask(*one))


if __name__ == "__main__":
    unittest.main()
