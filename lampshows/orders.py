"""Orders: what they are, whether they are right, and what they do to a board."""

from lampshows.boards import LEVELS, begin_show, stop_all, stop_level, switch_all_off
from lampshows.columns import add_lamp, remove_lamp
from lampshows.faults import NotRight

# The kinds of orders, numbered as the document numbers them.
BEGIN_SHOW = 0
STOP_LEVEL = 1
SWITCH_ON = 2
SWITCH_OFF = 3
SWITCH_ALL_OFF = 4
STOP_ALL = 5

NUMBERS_EACH = 4


class Order:
    def __init__(self, tick, kind, level, what):
        self.tick = tick
        self.kind = kind
        self.level = level
        self.what = what


def read_orders(numbers):
    orders = []
    for at in range(0, len(numbers), NUMBERS_EACH):
        orders.append(Order(numbers[at], numbers[at + 1], numbers[at + 2], numbers[at + 3]))
    return orders


def is_right(book, order):
    if order.kind == BEGIN_SHOW:
        return order.level < LEVELS and order.what < len(book.shows)
    if order.kind == STOP_LEVEL:
        return order.level < LEVELS and order.what == 0
    if order.kind == SWITCH_ON or order.kind == SWITCH_OFF:
        return order.level == 0 and order.what in book.lamps
    if order.kind == SWITCH_ALL_OFF or order.kind == STOP_ALL:
        return order.level == 0 and order.what == 0
    return False


# All of them before the first takes effect: a refusal leaves all as it was.
def check_orders(book, count, orders):
    before = 0
    for order in orders:
        if order.tick < before or order.tick >= count or not is_right(book, order):
            raise NotRight()
        before = order.tick


def carry_out(board, order):
    if order.kind == BEGIN_SHOW:
        begin_show(board, order.level, order.what)
    elif order.kind == STOP_LEVEL:
        stop_level(board, order.level)
    elif order.kind == SWITCH_ON:
        add_lamp(board.switched, order.what)
    elif order.kind == SWITCH_OFF:
        remove_lamp(board.switched, order.what)
    elif order.kind == SWITCH_ALL_OFF:
        switch_all_off(board)
    else:
        stop_all(board)
