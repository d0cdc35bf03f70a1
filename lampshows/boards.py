"""How lamps stand: what runs on the levels, what is switched on, what is lit, and how a tick passes."""

from lampshows.columns import COLUMNS, FULL, no_lamps, places_of

LEVELS = 16


# A show on a level. Ticks are told as those of the board, so that nothing is to be counted while a step goes on.
class Run:
    def __init__(self, number, show, tick):
        self.number = number
        self.show = show
        self.begun = tick
        self.at = 0
        self.step = show.steps[0]
        self.step_over = tick + self.step.ticks


class Board:
    def __init__(self, book):
        self.book = book
        self.tick = 0
        self.levels = [None] * LEVELS
        self.switched = no_lamps()


def begin_show(board, level, number):
    board.levels[level] = Run(number, board.book.shows[number], board.tick)


def stop_level(board, level):
    board.levels[level] = None


def stop_all(board):
    board.levels = [None] * LEVELS


def switch_all_off(board):
    board.switched = no_lamps()


# As a byte, which is the tick's row where the column is the tick's.
def lit_in_column(board, column):
    lit = 0
    unspoken = FULL
    for run in reversed(board.levels):
        if run is not None:
            lit |= unspoken & run.step.columns[column]
            unspoken &= FULL - run.show.columns[column]
    return lit | (unspoken & board.switched[column])


def lit_places(board):
    return places_of([lit_in_column(board, column) for column in range(COLUMNS)])


# False where all steps are over and the show ends.
def enter_next_step(run, tick):
    run.at += 1
    if run.at == len(run.show.steps):
        if not run.show.loops:
            return False
        run.at = 0
        run.begun = tick
    run.step = run.show.steps[run.at]
    run.step_over = tick + run.step.ticks
    return True


# Gives back the levels whose shows end, rising.
def pass_tick(board):
    board.tick += 1
    ended = []
    for level in range(LEVELS):
        run = board.levels[level]
        if run is not None and run.step_over == board.tick and not enter_next_step(run, board.tick):
            stop_level(board, level)
            ended.append(level)
    return ended
