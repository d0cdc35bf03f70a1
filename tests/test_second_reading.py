"""D1 once more: the document's grammar written a second time, another way, and held against many spoilt texts.

Here a line is a generator: it yields what the word to come has to be, as faults of rising kinds, and gets the word.
"""

import random
import re
import unittest

from lampshows.faults import TextFault
from lampshows.tables import read_table
from support import BOOK, SMALLEST, TABLE, ask_one, judge, spell

NAME = re.compile("[a-z][a-z0-9_]{0,11}")
NUMBER = re.compile("0|[1-9][0-9]*")
ORDER = ["switch", "lamp", "coil", "device", "kick"]


def mark(*words):
    return [(3, lambda w: w not in words)]


def name(*further):
    return [(4, lambda w: not NAME.fullmatch(w))] + list(further)


def number(least, most, *further):
    return [(4, lambda w: not NUMBER.fullmatch(w) or not least <= int(w[:20]) <= most)] + list(further)


def perhaps(checks):
    return [(0, None)] + checks


class TableReading:
    def __init__(self):
        self.lines = {sort: [] for sort in ORDER}
        self.place = {sort: {} for sort in ORDER}
        self.most = {}
        self.in_devices = []
        self.coils_used = []
        self.drains = 0

    def first(self):
        yield mark("table")
        yield name()
        yield mark("balls")
        self.balls = int((yield number(1, 8)))

    def further(self):
        came = [sort for sort in ORDER if self.lines[sort]]
        may = ORDER[ORDER.index(came[-1]):] if came else ORDER
        sort = yield mark(*[s for s in may if s not in ("device", "kick") or len(self.lines[s]) < 8])
        self.lines[sort].append(sort)
        yield from getattr(self, sort)()

    def placed(self, sort, most, barred):
        known = self.place[sort]
        new = yield name((4, lambda w: w == barred), (5, lambda w: w in known))
        yield mark("at")
        known[new] = int((yield number(0, most, (5, lambda w: int(w) <= max(known.values(), default=-1)))))
        return new

    def switch(self):
        yield from self.placed("switch", 63, "drain")
        yield mark("close")
        yield number(1, 31)
        yield mark("open")
        yield number(1, 31)
        yield perhaps(mark("turned"))

    def lamp(self):
        yield from self.placed("lamp", 63, "loop")

    def coil(self):
        new = yield from self.placed("coil", 31, None)
        yield mark("most")
        self.most[new] = int((yield number(1, 1023)))
        yield mark("rest")
        yield number(1, 4095)
        if (yield perhaps(mark("hold"))):
            yield number(1, 15)

    def device(self):
        known = self.place["device"]
        known[(yield name((5, lambda w: w in known)))] = True
        yield mark("by")
        coil = yield name((6, lambda w: w not in self.most), (7, lambda w: w in self.coils_used))
        yield mark("holds")
        held = 0
        while True:
            checks = name((6, lambda w: w not in self.place["switch"]), (7, lambda w: w in self.in_devices))
            if held == 8:
                checks = mark("drain")
            if held > 0:
                checks = perhaps([(kind, lambda w, bad=bad: w != "drain" and bad(w)) for kind, bad in checks])
            word = yield checks
            if word in (None, "drain"):
                break
            self.in_devices.append(word)
            held += 1
        self.drains += held if word else 0
        self.coils_used.append(coil)

    def kick(self):
        switches = self.place["switch"]
        before = max(self.place["kick"].values(), default=-1)
        first = yield name((6, lambda w: w not in switches), (5, lambda w: switches[w] <= before),
                           (7, lambda w: w in self.in_devices))
        self.place["kick"][first] = switches[first]
        coil = yield name((6, lambda w: w not in self.most), (7, lambda w: w in self.coils_used))
        self.coils_used.append(coil)
        yield mark("for")
        yield number(1, 255, (7, lambda w: int(w) > self.most[coil]))
        if (yield perhaps(mark("till"))):
            yield name((6, lambda w: w not in switches), (7, lambda w: w == first))

    def last(self):
        return 8 if self.drains < self.balls else None


class BookReading:
    def __init__(self, lamps):
        self.lamps = lamps
        self.shows = []

    def further(self):
        may = []
        if len(self.shows) < 32 and (not self.shows or self.shows[-1]["steps"]):
            may.append("show")
        if self.shows and self.shows[-1]["steps"] < 16:
            may.append("step")
        yield from getattr(self, (yield mark(*may)))()

    first = further

    def show(self):
        new = yield name((5, lambda w: w in [show["name"] for show in self.shows]))
        yield mark("on")
        lamps = [(yield name((6, lambda w: w not in self.lamps)))]
        while True:
            word = yield perhaps([
                (4, lambda w: not NAME.fullmatch(w)),
                (6, lambda w: w != "loop" and w not in self.lamps),
                (5, lambda w: w != "loop" and self.lamps[w] <= self.lamps[lamps[-1]]),
            ])
            if word in (None, "loop"):
                break
            lamps.append(word)
        self.shows.append({"name": new, "lamps": lamps, "steps": 0})

    def step(self):
        show = self.shows[-1]
        yield number(1, 65535)
        before = -1
        while True:
            word = yield perhaps(name(
                (6, lambda w: w not in self.lamps),
                (5, lambda w: self.lamps[w] <= before),
                (6, lambda w: w not in show["lamps"]),
            ))
            if word is None:
                break
            before = self.lamps[word]
        show["steps"] += 1

    def last(self):
        return 9 if self.shows and not self.shows[-1]["steps"] else None


def advance(plan, word):
    try:
        return plan.send(word)
    except StopIteration:
        return None


def fault_of_words(reading, line, start):
    plan = reading.further() if start else reading.first()
    checks = advance(plan, None)
    for match in re.finditer("[^ ]+", line):
        place = start + match.start()
        if checks is None:
            return 3, place
        for kind, bad in checks:
            if bad and bad(match.group()):
                return kind, place
        checks = advance(plan, match.group())
    if checks is None:
        return None
    if checks[0][0] != 0:
        return 3, start + len(line)
    advance(plan, None)
    return None


def first_fault(reading, text):
    start = 0
    for line in text.split("\n")[:-1]:
        stray = re.search("[^ -~]|^ | (?=$)|(?<= ) ", line)
        if stray:
            return 2, start + stray.start()
        fault = fault_of_words(reading, line, start)
        if fault:
            return fault
        start += len(line) + 1
    if start < len(text) or (text == "" and isinstance(reading, TableReading)):
        return 1, len(text)
    return (reading.last(), len(text)) if reading.last() else None


ODD = ["drain", "loop", "turned", "till", "hold", "x", "X", "_a", "01", "0", "64", "32", "256", "65536", "abcdefghijklm",
       "\x00", "", " ", "\n", "\t", "table", "switch", "show", "step", "a", "d", "e", "c"]


def spoil(text, dice):
    """The text with one thing changed in it: a word, a line or a byte."""
    lines = text.split("\n")
    row = dice.randrange(len(lines))
    words = lines[row].split(" ")
    at = dice.randrange(len(words))
    other = dice.choice(ODD + re.findall("[^ \n]+", text))
    way = dice.randrange(9)
    if way < 3:
        words[at] = other
    elif way == 3:
        words.insert(at + dice.randrange(2), other)
    elif way == 4:
        words = words[:at] + words[at + 1:]
    lines[row] = " ".join(words)
    if way == 5:
        lines.insert(dice.randrange(len(lines)), lines[row])
    elif way == 6:
        lines = lines[:row] + lines[row + 1:]
    elif way == 7:
        lines.insert(dice.randrange(len(lines)), lines.pop(row))
    text = "\n".join(lines)
    if way == 8:
        place = dice.randrange(len(text) + 1)
        text = text[:place] + dice.choice("a0 \n~\x7f") + text[place + dice.randrange(2):]
    return text


def told_of_table(text):
    try:
        read_table(spell(text))
    except TextFault as fault:
        return fault.kind, fault.place
    return None


def told_of_book(text):
    told = ask_one(judge(TABLE, text))
    return None if told == [0] else tuple(told[1:])


class SecondReading(unittest.TestCase):
    def hold(self, samples, told, reading, kinds):
        dice = random.Random(20)
        seen = set()
        for turn in range(6000):
            text = dice.choice(samples)
            for change in range(dice.randrange(1, 4)):
                text = spoil(text, dice)
            fault = first_fault(reading(), text)
            self.assertEqual(told(text), fault, repr(text))
            seen.add(fault[0] if fault else 0)
        self.assertEqual(seen, kinds)

    def test_tables(self):
        self.hold([TABLE, TABLE, SMALLEST], told_of_table, TableReading, {0, 1, 2, 3, 4, 5, 6, 7, 8})

    def test_books(self):
        lamps = {"a": 0, "b": 7, "c": 8, "d": 63}
        long_show = "show x on a c d\n" + "step 5 a\nstep 9 c d\n" * 8
        many = "".join(f"show n{k} on b c\nstep 2 c\n" for k in range(32))
        self.hold([BOOK, BOOK, long_show, many, ""], told_of_book, lambda: BookReading(lamps), {0, 1, 2, 3, 4, 5, 6, 9})


if __name__ == "__main__":
    unittest.main()
