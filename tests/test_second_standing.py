"""D2 to D5 once more: how lamps stand, written a second time, another way, and held against many lists of calls.

Here nothing goes along with the ticks: where a show is follows from the tick it was ordered at, each time anew.
"""

import random
import unittest

from support import STANDING, ask, begin, level, table_with_lamps, ticks


class Standing:
    def __init__(self, lamps, shows):
        self.lamps = lamps
        self.shows = shows
        self.tick = 0
        self.ordered = {}
        self.on = set()

    def step_at(self, on, tick):
        """None where nothing runs; else how many ticks after its beginning the show is, and its step's lamps."""
        if on not in self.ordered:
            return None
        begun, number = self.ordered[on]
        lengths = [length for length, lamps in self.shows[number]["steps"]]
        passed = tick - begun
        if passed >= sum(lengths) and not self.shows[number]["loops"]:
            return None
        passed %= sum(lengths)
        lit = [lamps for length, lamps in self.shows[number]["steps"] for k in range(length)]
        return passed, lit[passed]

    def lit(self):
        lit = set(self.on)
        for on in range(16):
            now = self.step_at(on, self.tick)
            if now:
                lit = lit - set(self.shows[self.ordered[on][1]]["lamps"]) | set(now[1])
        return sorted(lit)

    def wrong(self, count, orders):
        bounds = {0: (range(16), range(len(self.shows))), 1: (range(16), [0]), 2: ([0], self.lamps),
                  3: ([0], self.lamps), 4: ([0], [0]), 5: ([0], [0])}
        numbers = [order[0] for order in orders]
        return numbers != sorted(numbers) or any(
            tick >= count or kind not in bounds or on not in bounds[kind][0] or what not in bounds[kind][1]
            for tick, kind, on, what in orders
        )

    def obey(self, kind, on, what):
        if kind in (1, 5):
            self.ordered = {other: self.ordered[other] for other in self.ordered if kind == 1 and other != on}
        elif kind == 0:
            self.ordered[on] = (self.tick, what)
        elif kind == 2:
            self.on.add(what)
        else:
            self.on -= {what} if kind == 3 else set(self.lamps)

    def ticks(self, count, orders):
        if count > 4096 or len(orders) > 4096:
            return [-2]
        if self.wrong(count, orders):
            return [-1]
        rows, ends = [], []
        for number in range(count):
            for order in orders:
                if order[0] == number:
                    self.obey(*order[1:])
            rows.append(sum(2 ** (place % 8) for place in self.lit() if place // 8 == self.tick % 8))
            runs = [on for on in range(16) if self.step_at(on, self.tick)]
            self.tick += 1
            ends += [part for on in runs if not self.step_at(on, self.tick) for part in (number, on)]
        return [0] + rows + [len(ends) // 2] + ends

    def level(self, on):
        if on > 15:
            return [-1]
        now = self.step_at(on, self.tick)
        return [0, self.ordered[on][1] + 1, now[0]] if now else [0, 0, 0]

    def standing(self):
        levels = [self.level(on) for on in range(16)]
        return [[0] + self.lit()] + levels + [[0] + sorted(self.on), [0, self.tick]]


def some(dice, places, most):
    return sorted(dice.sample(places, dice.randrange(min(most, len(places)) + 1)))


def some_shows(dice, lamps):
    shows = []
    for number in range(dice.randrange(6)):
        spoken = some(dice, lamps, 64) or lamps[:1]
        steps = [(dice.choice([1, 1, 2, 3, 9, 40]), some(dice, spoken, 64)) for k in range(dice.choice([1, 1, 2, 5, 16]))]
        shows.append({"loops": dice.randrange(2), "lamps": spoken, "steps": steps})
    return shows


def text_of(lamps):
    return "".join(f" l{place}" for place in lamps)


def book_of(shows):
    text = ""
    for number, show in enumerate(shows):
        text += f"show s{number} on{text_of(show['lamps'])}" + " loop" * show["loops"] + "\n"
        text += "".join(f"step {length}{text_of(lamps)}\n" for length, lamps in show["steps"])
    return text


def some_order(dice, tick, lamps, shows):
    kind = dice.choice([0, 0, 0, 0, 1, 2, 2, 3, 4, 5])
    if kind == 0 and shows:
        return [tick, 0, dice.randrange(16), dice.randrange(len(shows))]
    if kind == 1:
        return [tick, 1, dice.randrange(16), 0]
    return [tick, kind, 0, dice.choice(lamps)] if kind in (2, 3) else [tick, 5 if kind == 0 else kind, 0, 0]


def some_ticks(dice, lamps, shows):
    count = dice.choice([0, 1, 2, 7, 8, 9, 30, 60])
    number = dice.randrange(12) if count else 0
    orders = [some_order(dice, tick, lamps, shows) for tick in sorted(dice.randrange(count) for k in range(number))]
    if orders and dice.randrange(4) == 0:
        spoilt = dice.choice(orders)
        spoilt[dice.randrange(4)] = dice.choice([0, 1, 3, 5, 6, 15, 16, 63, 64, count, 4294967295])
    return count, orders


class SecondStanding(unittest.TestCase):
    def hold(self, dice, lamps, seen):
        shows = some_shows(dice, lamps)
        standing = Standing(lamps, shows)
        calls, told = [begin(table_with_lamps(lamps), book_of(shows))], [[0]]
        for turn in range(8):
            count, orders = some_ticks(dice, lamps, shows)
            calls.append(ticks(count, sum(orders, [])))
            told.append(standing.ticks(count, orders))
            seen.append(told[-1][0])
            beyond = dice.choice([15, 16, 4294967295])
            calls += STANDING + [level(beyond)]
            told += standing.standing() + [standing.level(beyond)]
        self.assertEqual(ask(*calls), told)

    def test_many_lists(self):
        dice = random.Random(16)
        seen = []
        for turn in range(250):
            self.hold(dice, sorted(dice.sample(range(64), dice.choice([1, 4, 20, 64]))), seen)
        self.assertGreater(seen.count(-1), 100)
        self.assertGreater(seen.count(0), 1000)


if __name__ == "__main__":
    unittest.main()
