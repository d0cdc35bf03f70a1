"""Books of shows for a table."""

from lampshows.columns import columns_of
from lampshows.faults import NO_STEP, NOT_KNOWN, NOT_NEW, TextFault, WRONG_WORD
from lampshows.lines import read_line, spelled

MOST_SHOWS = 32
MOST_STEPS = 16
MOST_STEP_TICKS = 65535


# Lamps by place, and once more as columns: rows are asked for far more often than books are read.
class Step:
    def __init__(self, ticks, lamps):
        self.ticks = ticks
        self.lamps = lamps
        self.columns = columns_of(lamps)


class Show:
    def __init__(self, name, lamps, loops):
        self.name = name
        self.lamps = lamps
        self.columns = columns_of(lamps)
        self.loops = loops
        self.steps = []


# The lamps of the table go along with its shows: orders may switch any of them.
class Book:
    def __init__(self, lamps, shows):
        self.lamps = lamps
        self.shows = shows


def awaits_step(shows):
    return len(shows) > 0 and len(shows[-1].steps) == 0


def take_lamp(table, line, before):
    place = table.lamps[line.take_known_name(table.lamps)]
    if place <= before:
        raise TextFault(NOT_NEW, line.place)
    return place


def take_show_lamps(table, line):
    lamps = [take_lamp(table, line, -1)]
    while line.has_more() and not line.sees("loop"):
        lamps.append(take_lamp(table, line, lamps[-1]))
    return lamps


def take_step_lamps(table, show, line):
    lamps = []
    before = -1
    while line.has_more():
        before = take_lamp(table, line, before)
        if before not in show.lamps:
            raise TextFault(NOT_KNOWN, line.place)
        lamps.append(before)
    return lamps


def read_show(table, shows, line):
    if len(shows) == MOST_SHOWS or awaits_step(shows):
        raise TextFault(WRONG_WORD, line.place)
    name = line.take_new_name([show.name for show in shows])
    line.take_mark("on")
    lamps = take_show_lamps(table, line)
    loops = line.has_more()
    if loops:
        line.take_mark("loop")
    line.finish()
    return Show(name, lamps, loops)


def read_step(table, shows, line):
    if len(shows) == 0 or len(shows[-1].steps) == MOST_STEPS:
        raise TextFault(WRONG_WORD, line.place)
    ticks = line.take_number(1, MOST_STEP_TICKS)
    return Step(ticks, take_step_lamps(table, shows[-1], line))


def read_book_line(table, shows, line):
    word = line.take()
    if word == spelled("show"):
        shows.append(read_show(table, shows, line))
    elif word == spelled("step"):
        step = read_step(table, shows, line)
        shows[-1].steps.append(step)
    else:
        raise TextFault(WRONG_WORD, line.place)


# Raises the text's first fault where it is no book's for this table.
def read_book(table, text):
    shows = []
    start = 0
    while start < len(text):
        line = read_line(text, start)
        read_book_line(table, shows, line)
        start = line.end + 1
    if awaits_step(shows):
        raise TextFault(NO_STEP, len(text))
    return Book(sorted(table.lamps.values()), shows)
