"""How lamps stand: what runs on the levels, what is switched on, what is lit."""

LEVELS = 16


# A show on a level. Its ticks stay below all its steps' together: a show that is over ends or begins anew.
class Run:
    def __init__(self, show):
        self.show = show
        self.passed = 0


class Board:
    def __init__(self, book):
        self.book = book
        self.levels = [None] * LEVELS
        self.switched = {}


def step_now(run):
    left = run.passed
    number = 0
    while left >= run.show.steps[number].ticks:
        left -= run.show.steps[number].ticks
        number += 1
    return run.show.steps[number]


def is_lit(board, lamp):
    for run in reversed(board.levels):
        if run is not None and lamp in run.show.lamps:
            return lamp in step_now(run).lamps
    return lamp in board.switched


def lit_lamps(board):
    return [lamp for lamp in board.book.lamps if is_lit(board, lamp)]
