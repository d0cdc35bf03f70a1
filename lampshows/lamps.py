"""The calls on one object, and what is answered to them."""

from lampshows.boards import Board, LEVELS, lit_in_column, lit_places, pass_tick
from lampshows.books import read_book
from lampshows.calls import read_calls
from lampshows.columns import COLUMNS, places_of
from lampshows.faults import BadBook, BadTable, NoSuchShow, NotBegun, NotRight, TextFault, TooMuch
from lampshows.orders import NUMBERS_EACH, carry_out, check_orders, read_orders
from lampshows.tables import read_table

DONE = 0
NOT_RIGHT = -1
TOO_MUCH = -2
NO_SUCH_SHOW = -4
BAD_BOOK = -6
BAD_TABLE = -8
NOT_BEGUN = -10

MOST_TABLE_BYTES = 16384
MOST_BOOK_BYTES = 65536
MOST_TICKS = 4096
MOST_ORDERS = 4096

WITH_TEXTS = ("judge", "shows", "find", "begin")
TELLING_FAULTS = ("judge", "begin")


# The one object of a list of calls; its board is None as long as nothing is begun.
class Machine:
    def __init__(self):
        self.board = None


def read_right_table(text):
    try:
        return read_table(text)
    except TextFault as fault:
        raise BadTable() from fault


def read_right_book(table, text):
    try:
        return read_book(table, text)
    except TextFault as fault:
        raise BadBook(fault.kind, fault.place) from fault


def read_texts(rows):
    if len(rows[0]) > MOST_TABLE_BYTES or len(rows[1]) > MOST_BOOK_BYTES:
        raise TooMuch()
    return read_right_book(read_right_table(rows[0]), rows[1])


def tell_step(step):
    return [step.ticks, len(step.lamps)] + step.lamps


def tell_show(show):
    told = [1 if show.loops else 0, len(show.lamps)] + show.lamps
    told.append(len(show.steps))
    for step in show.steps:
        told.extend(tell_step(step))
    told.append(len(show.name))
    return told + list(show.name)


def tell_shows(book):
    told = [DONE, len(book.shows)]
    for show in book.shows:
        told.extend(tell_show(show))
    return told


def find_show(book, name):
    for number, show in enumerate(book.shows):
        if list(show.name) == name:
            return [DONE, number]
    raise NoSuchShow()


def answer_with_texts(machine, call):
    book = read_texts(call.rows)
    if call.name == "shows":
        return tell_shows(book)
    if call.name == "find":
        return find_show(book, call.rows[2])
    if call.name == "begin":
        machine.board = Board(book)
    return [DONE]


def tell_ticks(rows, ends):
    told = [DONE] + rows + [len(ends)]
    for end in ends:
        told.extend(end)
    return told


def run_ticks(board, count, orders):
    rows = []
    ends = []
    done = 0
    for number in range(count):
        while done < len(orders) and orders[done].tick == number:
            carry_out(board, orders[done])
            done += 1
        rows.append(lit_in_column(board, board.tick % COLUMNS))
        for level in pass_tick(board):
            ends.append((number, level))
    return tell_ticks(rows, ends)


def answer_ticks(board, count, numbers):
    if count > MOST_TICKS or len(numbers) > MOST_ORDERS * NUMBERS_EACH:
        raise TooMuch()
    orders = read_orders(numbers)
    check_orders(board.book, count, orders)
    return run_ticks(board, count, orders)


def tell_level(board, level):
    if level >= LEVELS:
        raise NotRight()
    run = board.levels[level]
    if run is None:
        return [DONE, 0, 0]
    return [DONE, run.number + 1, board.tick - run.begun]


def answer_begun(machine, call):
    if machine.board is None:
        raise NotBegun()
    if call.name == "lit":
        return [DONE] + lit_places(machine.board)
    if call.name == "ticks":
        return answer_ticks(machine.board, call.wholes[0], call.rows[0])
    if call.name == "level":
        return tell_level(machine.board, call.wholes[0])
    if call.name == "base":
        return [DONE] + places_of(machine.board.switched)
    return [DONE, machine.board.tick]


def answer_or_refuse(machine, call):
    if call.name in WITH_TEXTS:
        return answer_with_texts(machine, call)
    return answer_begun(machine, call)


def answer(machine, call):
    try:
        return answer_or_refuse(machine, call)
    except NotRight:
        return [NOT_RIGHT]
    except TooMuch:
        return [TOO_MUCH]
    except NoSuchShow:
        return [NO_SUCH_SHOW]
    except BadBook as fault:
        if call.name in TELLING_FAULTS:
            return [BAD_BOOK, fault.kind, fault.place]
        return [BAD_BOOK]
    except BadTable:
        return [BAD_TABLE]
    except NotBegun:
        return [NOT_BEGUN]


def answers(calls):
    machine = Machine()
    answered = []
    for call in read_calls(calls):
        told = answer(machine, call)
        answered.append(len(told))
        answered.extend(told)
    return answered
