"""D2 in rows and D3: orders take effect in their tick, rows tell what is lit, shows end once or never."""

import unittest

from support import (
    ALL_LAMPS, BASE, LIT, TICK, all_off, ask_begun, level, start, stop, stop_all, switch_off, switch_on, ticks,
)

EVERY = "".join(f" l{place}" for place in range(64))
# Lamps of one row of the matrix, so that every tick's row can tell of them.
FIRST = "".join(f" l{place}" for place in range(0, 64, 8))
LAST = "".join(f" l{place}" for place in range(7, 64, 8))
BOTH = "".join(f" l{place} l{place + 7}" for place in range(0, 64, 8))

BOOK = (
    f"show flash on{FIRST}\n"
    f"step 1{FIRST}\n"
    f"show long on{BOTH}\n"
    f"step 2{FIRST}\n"
    f"step 1\n"
    f"step 3{LAST}\n"
    f"show round on{LAST} loop\n"
    f"step 2{LAST}\n"
    f"step 1\n"
    f"show glow on{EVERY} loop\n"
    f"step 65535{EVERY}\n"
    f"show once on{LAST} loop\n"
    f"step 1{LAST}\n"
)
FLASH, LONG, ROUND, GLOW, ONCE = 0, 1, 2, 3, 4
NONE = [0, 0, 0]


def run(*calls):
    return ask_begun(ALL_LAMPS, BOOK, *calls)


def rows_and_ends(told, count):
    assert told[0] == 0
    ends = told[count + 2:]
    assert told[count + 1] * 2 == len(ends)
    return told[1:count + 1], list(zip(ends[::2], ends[1::2]))


class TickCase(unittest.TestCase):
    def told(self, orders, rows, ends=(), *further):
        """Rows and ends of one call, then what the further calls are answered."""
        calls = further[::2]
        given = run(ticks(len(rows), orders), *calls)
        self.assertEqual(rows_and_ends(given[0], len(rows)), (rows, list(ends)))
        self.assertEqual(given[1:], list(further[1::2]))


class EachOrder(TickCase):
    def test_none(self):
        self.told([], [0] * 9)

    def test_a_show_begins(self):
        self.told(start(1, 4, ROUND), [0, 128, 128, 0, 128], (), level(4), [0, ROUND + 1, 1])

    def test_in_place_of_what_ran_there(self):
        self.told(start(0, 4, LONG) + start(1, 4, ROUND), [1, 128, 128, 0], (), level(4), [0, ROUND + 1, 0])

    def test_nothing_runs_there_any_more(self):
        self.told(start(0, 4, ROUND) + stop(1, 4), [128, 0, 0], (), level(4), NONE)
        self.told(start(0, 4, ROUND) + stop(1, 5), [128, 128, 0], (), level(4), [0, ROUND + 1, 0])

    def test_nothing_has_run_there(self):
        self.told(stop(0, 0) + stop(2, 15), [0, 0, 0])

    def test_switched_on(self):
        self.told(switch_on(1, 9) + switch_on(1, 63), [0, 2, 0, 0, 0, 0, 0, 128], (), BASE, [0, 9, 63])
        self.told(switch_on(0, 0) + switch_on(0, 0), [1, 0], (), BASE, [0, 0])

    def test_switched_off(self):
        self.told(switch_on(0, 0) + switch_on(0, 1) + switch_off(0, 0), [2, 0], (), BASE, [0, 1])
        self.told(switch_on(0, 0) + switch_on(0, 8) + switch_off(1, 8), [1, 0], (), BASE, [0, 0])
        self.told(switch_off(0, 0) + switch_off(0, 63), [0, 0], (), BASE, [0])

    def test_all_switched_off(self):
        orders = switch_on(0, 0) + switch_on(0, 8) + switch_on(0, 63) + start(0, 3, ROUND) + all_off(1)
        self.told(orders, [129, 128, 0], (), BASE, [0], level(3), [0, ROUND + 1, 0])
        self.told(all_off(0), [0], (), BASE, [0])

    def test_nothing_runs_on_any_level(self):
        orders = [number for on in range(16) for number in start(0, on, ROUND)] + switch_on(0, 8) + stop_all(1)
        calls = [part for on in range(16) for part in (level(on), NONE)]
        self.told(orders, [128, 1, 0], (), BASE, [0, 8], *calls)
        self.told(stop_all(0), [0])

    def test_each_level_and_show(self):
        for on in range(16):
            for show in range(5):
                told = run(ticks(1, start(0, on, show)), *[level(other) for other in range(16)])[1:]
                here = {FLASH: NONE, ONCE: [0, ONCE + 1, 0]}.get(show, [0, show + 1, 1])
                self.assertEqual(told, [here if other == on else NONE for other in range(16)])


class OrdersOfOneTick(TickCase):
    def test_begun_and_stopped(self):
        self.told(start(0, 2, ROUND) + stop(0, 2), [0, 0], (), level(2), NONE)
        self.told(start(0, 2, FLASH) + stop(0, 2), [0, 0])
        self.told(start(0, 2, ROUND) + stop_all(0), [0, 0], (), level(2), NONE)

    def test_stopped_and_begun(self):
        self.told(stop(0, 2) + start(0, 2, ROUND), [128, 128], (), level(2), [0, ROUND + 1, 2])
        self.told(stop_all(0) + start(0, 2, ROUND), [128, 128], (), level(2), [0, ROUND + 1, 2])

    def test_begun_twice_on_one_level(self):
        self.told(start(0, 2, GLOW) + start(0, 2, ROUND), [128], (), level(2), [0, ROUND + 1, 1])
        self.told(start(0, 2, FLASH) + start(0, 2, FLASH), [1, 0], [(0, 2)])
        self.told(start(0, 2, FLASH) + start(0, 2, GLOW), [255, 255], (), level(2), [0, GLOW + 1, 2])

    def test_on_and_off_again(self):
        self.told(switch_on(0, 0) + switch_off(0, 0), [0], (), BASE, [0])
        self.told(switch_off(0, 0) + switch_on(0, 0), [1], (), BASE, [0, 0])
        self.told(switch_on(0, 0) + switch_off(0, 0) + switch_on(0, 0), [1], (), BASE, [0, 0])

    def test_all_off_between(self):
        self.told(switch_on(0, 0) + all_off(0) + switch_on(0, 1), [2], (), BASE, [0, 1])
        self.told(switch_on(0, 0) + switch_on(0, 1) + all_off(0), [0], (), BASE, [0])

    def test_stop_all_between(self):
        orders = start(0, 1, GLOW) + stop_all(0) + start(0, 0, FLASH)
        self.told(orders, [1, 0], [(0, 0)], level(1), NONE)

    def test_orders_of_the_last_tick(self):
        self.told(switch_on(2, 16) + start(2, 0, ROUND), [0, 0, 129], (), level(0), [0, ROUND + 1, 1])

    def test_orders_take_effect_in_their_own_ticks_row(self):
        for tick in range(20):
            rows = [0] * tick + [255] + [0] * (19 - tick)
            self.told(start(tick, 0, GLOW) + (stop(tick + 1, 0) if tick < 19 else []), rows)


class TheRow(TickCase):
    def test_every_column(self):
        orders = [number for place in range(64) for number in switch_on(0, place)]
        self.told(orders, [255] * 17, (), LIT, [0] + list(range(64)))

    def test_columns_differ(self):
        places = [0, 9, 18, 27, 36, 45, 54, 63, 7, 56]
        orders = [number for place in places for number in switch_on(0, place)]
        self.told(orders, [129, 2, 4, 8, 16, 32, 64, 129, 129, 2, 4, 8, 16, 32, 64, 129, 129, 2])

    def test_the_ticks_number_goes_on_from_call_to_call(self):
        places = [0, 9, 18, 27, 36, 45, 54, 63]
        orders = [number for place in places for number in switch_on(0, place)]
        for cut in range(12):
            told = run(ticks(0), ticks(cut), ticks(12, orders), TICK)
            rows = [1, 2, 4, 8, 16, 32, 64, 128] * 3
            self.assertEqual(told[2:], [[0] + rows[cut % 8:][:12] + [0], [0, cut + 12]])

    def test_a_row_of_no_ticks(self):
        self.assertEqual(run(ticks(0), ticks(0), TICK), [[0, 0], [0, 0], [0, 0]])

    def test_the_rows_are_what_lit_tells(self):
        calls = [ticks(0)]
        orders = start(0, 3, LONG) + start(0, 1, ROUND) + switch_on(0, 33) + switch_on(0, 7)
        for tick in range(12):
            calls += [ticks(1, orders if tick == 0 else []), LIT]
        told = run(*calls)[1:]
        for tick in range(1, 12):
            lit = told[2 * tick - 1][1:]
            self.assertEqual(told[2 * tick][1], sum(2 ** (place % 8) for place in lit if place // 8 == tick % 8))


class Ends(TickCase):
    def test_a_show_of_one_tick(self):
        self.told(start(0, 0, FLASH), [1, 0, 0], [(0, 0)], level(0), NONE)
        self.told(start(2, 15, FLASH), [0, 0, 1], [(2, 15)], level(15), NONE)

    def test_a_show_of_several_steps(self):
        self.told(start(0, 7, LONG), [1, 1, 0, 128, 128, 128, 0, 0], [(5, 7)], level(7), NONE)
        self.told(start(0, 7, LONG), [1, 1, 0, 128, 128], (), level(7), [0, LONG + 1, 5])
        self.told(start(3, 7, LONG), [0] * 3 + [1, 1, 0, 128, 128, 128, 0], [(8, 7)])

    def test_the_ticks_number_counts_from_this_calls_first(self):
        told = run(ticks(5, start(3, 7, LONG)), ticks(4), ticks(4))
        self.assertEqual(told, [[0, 0, 0, 0, 1, 1, 0], [0, 0, 128, 128, 128, 1, 3, 7], [0, 0, 0, 0, 0, 0]])

    def test_a_show_that_loops_never_ends(self):
        self.told(start(0, 7, ROUND), [128, 128, 0] * 100, (), level(7), [0, ROUND + 1, 0])
        self.told(start(0, 7, ONCE), [128] * 100, (), level(7), [0, ONCE + 1, 0])

    def test_one_end_alone(self):
        self.told(start(0, 7, FLASH), [1] + [0] * 4000, [(0, 7)])

    def test_two_that_end_in_the_same_tick(self):
        orders = start(0, 9, LONG) + start(5, 10, FLASH) + start(5, 2, FLASH) + start(5, 15, ROUND)
        rows = [1, 1, 0, 128, 128, 129, 128, 0]
        self.told(orders, rows, [(5, 2), (5, 9), (5, 10)])

    def test_all_that_end_in_the_same_tick(self):
        orders = [number for on in reversed(range(16)) for number in start(1, on, FLASH)]
        self.told(orders, [0, 1, 0], [(1, on) for on in range(16)])

    def test_ends_of_several_ticks(self):
        orders = start(0, 3, FLASH) + start(0, 1, LONG) + start(1, 3, FLASH) + start(6, 0, FLASH)
        self.told(orders, [1, 1, 0, 128, 128, 128, 1], [(0, 3), (1, 3), (5, 1), (6, 0)])

    def test_stopped_in_what_would_have_been_its_last_tick(self):
        self.told(start(0, 7, LONG) + stop(5, 7), [1, 1, 0, 128, 128, 0, 0], (), level(7), NONE)
        self.told(start(0, 7, LONG) + stop_all(5), [1, 1, 0, 128, 128, 0, 0], (), level(7), NONE)

    def test_stopped_behind_its_last_tick(self):
        self.told(start(0, 7, LONG) + stop(6, 7), [1, 1, 0, 128, 128, 128, 0], [(5, 7)])

    def test_begun_anew_on_its_own_level(self):
        rows = [1, 1, 0, 1, 1, 0, 128, 128, 128, 0]
        self.told(start(0, 7, LONG) + start(3, 7, LONG), rows, [(8, 7)])

    def test_begun_anew_in_what_would_have_been_its_last_tick(self):
        rows = [1, 1, 0, 128, 128, 1, 1, 0, 128, 128, 128, 0]
        self.told(start(0, 7, LONG) + start(5, 7, LONG), rows, [(10, 7)])

    def test_begun_anew_behind_its_last_tick(self):
        rows = [1, 1, 0, 128, 128, 128] * 2
        self.told(start(0, 7, LONG) + start(6, 7, LONG), rows, [(5, 7), (11, 7)])

    def test_hidden_shows_end_too(self):
        self.told(start(0, 15, GLOW) + start(0, 0, LONG), [255] * 7, [(5, 0)])

    def test_a_show_as_long_as_can_be(self):
        book = "show x on l0\n" + "step 65535\n" * 15 + "step 65535 l0\n"
        calls = [ticks(4096, start(0, 3, 0))] + [ticks(4096)] * 254 + [ticks(4079), level(3), ticks(2), level(3), TICK]
        self.assertEqual(255 * 4096 + 4079 + 1, 16 * 65535)
        told = ask_begun(ALL_LAMPS, book, *calls)
        self.assertEqual([answer[4097:] for answer in told[:255]], [[0]] * 255)
        self.assertEqual(told[256:], [[0, 1, 16 * 65535 - 1], [0, 0, 0, 1, 0, 3], NONE, [0, 16 * 65535 + 1]])


class LevelBaseTick(TickCase):
    def test_behind_begin(self):
        told = run(*[level(on) for on in range(16)], BASE, TICK)
        self.assertEqual(told, [NONE] * 16 + [[0], [0, 0]])

    def test_level_goes_with_the_ticks(self):
        calls = [ticks(1, start(0, 6, LONG)), level(6)]
        for tick in range(6):
            calls += [ticks(1), level(6)]
        told = run(*calls)[1::2]
        self.assertEqual(told, [[0, LONG + 1, passed] for passed in range(1, 6)] + [NONE, NONE])

    def test_level_of_a_show_that_loops(self):
        calls = [ticks(1, start(0, 6, ROUND)), level(6)]
        for tick in range(6):
            calls += [ticks(1), level(6)]
        told = run(*calls)[1::2]
        self.assertEqual(told, [[0, ROUND + 1, passed] for passed in (1, 2, 0, 1, 2, 0, 1)])

    def test_level_of_a_show_begun_anew(self):
        told = run(ticks(4, start(0, 6, LONG)), level(6), ticks(1, start(0, 6, LONG)), level(6))
        self.assertEqual(told[1::2], [[0, LONG + 1, 4], [0, LONG + 1, 1]])

    def test_level_of_a_show_that_is_stopped(self):
        self.told(start(0, 6, LONG) + stop(2, 6), [1, 1, 0], (), level(6), NONE, level(5), NONE, level(7), NONE)

    def test_ticks_of_none_change_nothing(self):
        told = run(ticks(4, start(0, 6, LONG) + switch_on(0, 5)), ticks(0), level(6), BASE, TICK, LIT)
        self.assertEqual(told[1:5], [[0, 0], [0, LONG + 1, 4], [0, 5], [0, 4]])

    def test_levels_bound(self):
        told = run(ticks(1, start(0, 15, ROUND)), level(15), level(16), level(17), level(4294967295), level(0))
        self.assertEqual(told[1:], [[0, ROUND + 1, 1], [-1], [-1], [-1], NONE])

    def test_base_rises(self):
        orders = [switch_on(0, 63), switch_on(0, 8), switch_on(1, 7), switch_on(1, 40), switch_off(2, 8), switch_on(2, 0)]
        told = run(ticks(3, sum(orders, [])), BASE, ticks(1, switch_off(0, 63) + switch_on(0, 8)), BASE)
        self.assertEqual(told[1::2], [[0, 0, 7, 40, 63], [0, 0, 7, 8, 40]])

    def test_base_is_not_what_is_lit(self):
        told = run(ticks(1, switch_on(0, 9) + start(0, 0, GLOW)), BASE, ticks(1, switch_on(0, 3)), BASE, LIT)
        self.assertEqual(told[1::2], [[0, 9], [0, 3, 9]])
        self.assertEqual(told[4], [0] + list(range(64)))

    def test_tick_is_the_sum(self):
        calls = [TICK]
        for count in (0, 1, 7, 4096, 0, 4096, 3):
            calls += [ticks(count), TICK]
        self.assertEqual(run(*calls)[::2], [[0, told] for told in (0, 0, 1, 8, 4104, 4104, 8200, 8203)])


if __name__ == "__main__":
    unittest.main()
