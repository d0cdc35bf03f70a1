"""Tables: what a book and the further lines of the table itself have to know of a table's text."""

from lampshows.faults import CLASHING, FEW_DRAINS, NOT_NEW, TextFault, WRONG_VALUE, WRONG_WORD
from lampshows.lines import read_line, spelled

SORTS = ("switch", "lamp", "coil", "device", "kick")
MOST_BALLS = 8
LAST_PLACE = 63
LAST_COIL_PLACE = 31
MOST_SWITCH_TICKS = 31
MOST_COIL_TICKS = 1023
MOST_REST = 4095
MOST_HOLD = 15
MOST_DEVICES = 8
MOST_HELD = 8
MOST_KICKS = 8
MOST_KICK_TICKS = 255


class Table:
    def __init__(self, balls):
        self.balls = balls
        # The place of each switch and lamp, the most ticks of each coil, by name.
        self.switches = {}
        self.lamps = {}
        self.coils = {}
        self.devices = {}
        self.kicks = 0
        # Switches that stand in a device, coils that serve a device or a kick.
        self.held = {}
        self.serving = {}
        self.drained = 0
        # Which of SORTS the lines have come to, and the place of that sort's line before.
        self.rank = 0
        self.last_place = -1


def check_rises(table, line, place):
    if place <= table.last_place:
        raise TextFault(NOT_NEW, line.place)
    table.last_place = place


def take_name_but(line, barred, known):
    name = line.take_new_name(known)
    # No barred name ever gets among the known ones, so the greater kind can't have hidden this.
    if name == spelled(barred):
        raise TextFault(WRONG_VALUE, line.place)
    return name


def take_place(table, line, most):
    line.take_mark("at")
    place = line.take_number(0, most)
    check_rises(table, line, place)
    return place


def take_free_coil(table, line):
    coil = line.take_known_name(table.coils)
    if coil in table.serving:
        raise TextFault(CLASHING, line.place)
    return coil


def read_head(line):
    line.take_mark("table")
    line.take_name()
    line.take_mark("balls")
    balls = line.take_number(1, MOST_BALLS)
    line.finish()
    return Table(balls)


def read_switch(table, line):
    name = take_name_but(line, "drain", table.switches)
    place = take_place(table, line, LAST_PLACE)
    line.take_mark("close")
    line.take_number(1, MOST_SWITCH_TICKS)
    line.take_mark("open")
    line.take_number(1, MOST_SWITCH_TICKS)
    if line.has_more():
        line.take_mark("turned")
    table.switches[name] = place


def read_lamp(table, line):
    name = take_name_but(line, "loop", table.lamps)
    table.lamps[name] = take_place(table, line, LAST_PLACE)


def read_coil(table, line):
    name = line.take_new_name(table.coils)
    take_place(table, line, LAST_COIL_PLACE)
    line.take_mark("most")
    most = line.take_number(1, MOST_COIL_TICKS)
    line.take_mark("rest")
    line.take_number(1, MOST_REST)
    if line.has_more():
        line.take_mark("hold")
        line.take_number(1, MOST_HOLD)
    table.coils[name] = most


def hold_switch(table, line):
    switch = line.take_known_name(table.switches)
    if switch in table.held:
        raise TextFault(CLASHING, line.place)
    table.held[switch] = True


def read_device(table, line):
    if len(table.devices) == MOST_DEVICES:
        raise TextFault(WRONG_WORD, line.place)
    name = line.take_new_name(table.devices)
    line.take_mark("by")
    coil = take_free_coil(table, line)
    line.take_mark("holds")
    hold_switch(table, line)
    held = 1
    while held < MOST_HELD and line.has_more() and not line.sees("drain"):
        hold_switch(table, line)
        held += 1
    if line.has_more():
        line.take_mark("drain")
        table.drained += held
    table.devices[name] = True
    table.serving[coil] = True


def take_kick_switch(table, line):
    switch = line.take_known_name(table.switches)
    check_rises(table, line, table.switches[switch])
    if switch in table.held:
        raise TextFault(CLASHING, line.place)
    return switch


def read_kick(table, line):
    if table.kicks == MOST_KICKS:
        raise TextFault(WRONG_WORD, line.place)
    switch = take_kick_switch(table, line)
    coil = take_free_coil(table, line)
    line.take_mark("for")
    if line.take_number(1, MOST_KICK_TICKS) > table.coils[coil]:
        raise TextFault(CLASHING, line.place)
    if line.has_more():
        line.take_mark("till")
        if line.take_known_name(table.switches) == switch:
            raise TextFault(CLASHING, line.place)
    table.serving[coil] = True
    table.kicks += 1


def take_rank(table, line):
    word = line.take()
    for rank in range(table.rank, len(SORTS)):
        if word == spelled(SORTS[rank]):
            return rank
    raise TextFault(WRONG_WORD, line.place)


def enter_rank(table, rank):
    if rank != table.rank:
        table.rank = rank
        table.last_place = -1


def read_further(table, line):
    enter_rank(table, take_rank(table, line))
    sort = SORTS[table.rank]
    if sort == "switch":
        read_switch(table, line)
    elif sort == "lamp":
        read_lamp(table, line)
    elif sort == "coil":
        read_coil(table, line)
    elif sort == "device":
        read_device(table, line)
    else:
        read_kick(table, line)
    line.finish()


# Raises the text's first fault where it is no table's.
def read_table(text):
    line = read_line(text, 0)
    table = read_head(line)
    while line.end + 1 < len(text):
        line = read_line(text, line.end + 1)
        read_further(table, line)
    if table.drained < table.balls:
        raise TextFault(FEW_DRAINS, len(text))
    return table
