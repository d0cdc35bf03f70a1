"""The calls on one object, and what is answered to them."""

from lampshows.boards import Board, lit_lamps
from lampshows.books import read_book
from lampshows.calls import read_calls
from lampshows.faults import BadBook, BadTable, NoSuchShow, NotBegun, TextFault, TooLong
from lampshows.tables import read_table

DONE = 0
TOO_LONG = -2
NO_SUCH_SHOW = -4
BAD_BOOK = -6
BAD_TABLE = -8
NOT_BEGUN = -10

MOST_TABLE_BYTES = 16384
MOST_BOOK_BYTES = 65536

WITH_TEXTS = ("judge", "shows", "find", "begin")
TELLING_FAULTS = ("judge", "begin")


# The one object of a list of calls; its board is None as long as nothing is begun.
class Machine:
    def __init__(self):
        self.board = None


def read_right_table(text):
    try:
        return read_table(text)
    except TextFault as fault:
        raise BadTable() from fault


def read_right_book(table, text):
    try:
        return read_book(table, text)
    except TextFault as fault:
        raise BadBook(fault.kind, fault.place) from fault


def read_texts(rows):
    if len(rows[0]) > MOST_TABLE_BYTES or len(rows[1]) > MOST_BOOK_BYTES:
        raise TooLong()
    return read_right_book(read_right_table(rows[0]), rows[1])


def tell_step(step):
    return [step.ticks, len(step.lamps)] + step.lamps


def tell_show(show):
    told = [1 if show.loops else 0, len(show.lamps)] + show.lamps
    told.append(len(show.steps))
    for step in show.steps:
        told.extend(tell_step(step))
    told.append(len(show.name))
    return told + list(show.name)


def tell_shows(book):
    told = [DONE, len(book.shows)]
    for show in book.shows:
        told.extend(tell_show(show))
    return told


def find_show(book, name):
    for number, show in enumerate(book.shows):
        if list(show.name) == name:
            return [DONE, number]
    raise NoSuchShow()


def answer_with_texts(machine, call):
    book = read_texts(call.rows)
    if call.name == "shows":
        return tell_shows(book)
    if call.name == "find":
        return find_show(book, call.rows[2])
    if call.name == "begin":
        machine.board = Board(book)
    return [DONE]


def answer_begun(machine, call):
    if machine.board is None:
        raise NotBegun()
    if call.name == "lit":
        return [DONE] + lit_lamps(machine.board)
    raise NotImplementedError("of the calls on what is begun there is lit alone as yet")


def answer_or_refuse(machine, call):
    if call.name in WITH_TEXTS:
        return answer_with_texts(machine, call)
    return answer_begun(machine, call)


def answer(machine, call):
    try:
        return answer_or_refuse(machine, call)
    except TooLong:
        return [TOO_LONG]
    except NoSuchShow:
        return [NO_SUCH_SHOW]
    except BadBook as fault:
        if call.name in TELLING_FAULTS:
            return [BAD_BOOK, fault.kind, fault.place]
        return [BAD_BOOK]
    except BadTable:
        return [BAD_TABLE]
    except NotBegun:
        return [NOT_BEGUN]


def answers(calls):
    machine = Machine()
    answered = []
    for call in read_calls(calls):
        told = answer(machine, call)
        answered.append(len(told))
        answered.extend(told)
    return answered
