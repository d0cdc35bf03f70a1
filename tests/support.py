"""What the tests share: sample texts, calls in the form of the list, answers taken apart."""

from lampshows.lamps import answers

# The smallest right table: one ball, one drain to hold it.
SMALLEST = (
    "table t balls 1\n"
    "switch s at 0 close 1 open 1\n"
    "coil c at 0 most 1 rest 1\n"
    "device d by c holds s drain\n"
)

# Lines of every sort, with and without their further words.
TABLE = (
    "table sample balls 2\n"
    "switch left at 0 close 1 open 31\n"
    "switch right at 5 close 31 open 1 turned\n"
    "switch gate_a at 10 close 3 open 4\n"
    "switch gate_b at 11 close 3 open 4\n"
    "switch lock at 12 close 3 open 4\n"
    "switch lane at 63 close 2 open 2\n"
    "lamp a at 0\n"
    "lamp b at 7\n"
    "lamp c at 8\n"
    "lamp d at 63\n"
    "coil kicker at 0 most 255 rest 1\n"
    "coil eject at 3 most 1023 rest 4095 hold 15\n"
    "coil hatch at 4 most 9 rest 9\n"
    "coil pop at 31 most 1 rest 1 hold 1\n"
    "device trough by eject holds gate_a gate_b drain\n"
    "device vault by hatch holds lock\n"
    "kick left kicker for 255 till lane\n"
    "kick right pop for 1\n"
)

BOOK = (
    "show first on a b d loop\n"
    "step 1 a d\n"
    "step 65535\n"
    "step 20 b\n"
    "show second on c\n"
    "step 7 c\n"
    "show loop on a b c d\n"
    "step 3\n"
    "step 4 a b c d\n"
)


# The smallest table that has lamps at these places, each named by its place.
def table_with_lamps(places):
    return SMALLEST.replace("coil", "".join(f"lamp l{place} at {place}\n" for place in places) + "coil", 1)


ALL_LAMPS = table_with_lamps(range(64))

# A mark that stands in no sample: where a test's text has it, a fault is told.
MARK = "|"


LIT = [5]
BASE = [8]
TICK = [9]


def spell(text):
    return list(text.encode("latin-1"))


def unmark(text):
    place = text.index(MARK)
    return text[:place] + text[place + 1:], place


def row(text):
    numbers = spell(text)
    return [len(numbers)] + numbers


def judge(table, book):
    return [1] + row(table) + row(book)


def shows(table, book):
    return [2] + row(table) + row(book)


def find(table, book, name):
    return [3] + row(table) + row(book) + row(name)


def begin(table, book):
    return [4] + row(table) + row(book)


def ticks(count, orders=()):
    return [6, count, len(orders)] + list(orders)


def level(number):
    return [7, number]


# All that can be asked of how lamps stand: lit, level of each, base, tick.
STANDING = [LIT] + [level(number) for number in range(16)] + [BASE, TICK]


# Orders, each in the tick that is told first.
def start(tick, on, show):
    return [tick, 0, on, show]


def stop(tick, on):
    return [tick, 1, on, 0]


def switch_on(tick, place):
    return [tick, 2, 0, place]


def switch_off(tick, place):
    return [tick, 3, 0, place]


def all_off(tick):
    return [tick, 4, 0, 0]


def stop_all(tick):
    return [tick, 5, 0, 0]


def split(answered):
    parts = []
    at = 0
    while at < len(answered):
        end = at + 1 + answered[at]
        assert end <= len(answered), "an answer is cut off"
        parts.append(answered[at + 1:end])
        at = end
    return parts


def ask(*calls):
    numbers = []
    for call in calls:
        numbers = numbers + call
    parts = split(answers(numbers))
    assert len(parts) == len(calls), "not one answer for each call"
    return parts


def ask_begun(table, book, *calls):
    parts = ask(begin(table, book), *calls)
    assert parts[0] == [0], "not begun"
    return parts[1:]


def ask_one(call):
    return ask(call)[0]
