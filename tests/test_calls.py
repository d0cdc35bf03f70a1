"""D5 of the calls on texts, the order of refusals, begin and lit, and the list that is handed in and given back."""

import unittest

from lampshows.calls import read_calls
from lampshows.lamps import answers
from support import (
    BASE, BOOK, LIT, SMALLEST, TABLE, TICK, ask, ask_one, begin, find, judge, level, shows, spell, ticks,
)

BAD_BOOK = "show x on a\n"
BAD_TABLE = "table t balls 1\n"
LONG_TABLE = TABLE + "x" * (16385 - len(TABLE))
FULL_TABLE = LONG_TABLE[:-1]


def with_texts(table, book):
    return [judge(table, book), shows(table, book), find(table, book, "first"), begin(table, book)]


LAMPS = [f"long_name_{k:02}" for k in range(64)]
WIDE_TABLE = SMALLEST.replace("coil", "".join(f"lamp {name} at {k}\n" for k, name in enumerate(LAMPS)) + "coil", 1)


def step(lamps, zeros=0):
    return "step 1" + "0" * zeros + "".join(" " + name for name in LAMPS[:lamps]) + "\n"


def right_book_of(size):
    """A right book for WIDE_TABLE of just so many bytes."""
    on = " on " + " ".join(LAMPS) + "\n"
    book = ""
    while size - len(book) > 5000:
        book += f"show x{len(book)}" + on + step(64) + step(64)
    book += "show last" + on
    while size - len(book) > 1000:
        book += step(64)
    lamps, zeros = divmod(size - len(book) - 3 * len(step(0)), len(LAMPS[0]) + 1)
    book += step(lamps // 2, zeros // 3) + step(lamps - lamps // 2, (zeros + 1) // 3) + step(0, (zeros + 2) // 3)
    return book


class OrderOfRefusals(unittest.TestCase):
    def test_tables_of_the_most_bytes(self):
        self.assertEqual(len(FULL_TABLE), 16384)
        for call in with_texts(FULL_TABLE, BOOK):
            self.assertEqual(ask_one(call), [-8])
        for call in with_texts(LONG_TABLE, BOOK):
            self.assertEqual(ask_one(call), [-2])

    def test_books_of_the_most_bytes(self):
        # Longer than a list of calls is; the bound on a book's bytes is told all the same.
        for size in (65535, 65536, 65537):
            book = right_book_of(size)
            self.assertEqual(len(book), size)
            told = [ask_one(call)[0] for call in with_texts(WIDE_TABLE, book)]
            self.assertEqual(told, [0, 0, -4, 0] if size <= 65536 else [-2] * 4)

    def test_too_long_before_a_tables_fault(self):
        for call in with_texts(BAD_TABLE, "x" * 65537):
            self.assertEqual(ask_one(call), [-2])
        for call in with_texts("x" * 16385, BAD_BOOK):
            self.assertEqual(ask_one(call), [-2])

    def test_a_tables_fault_before_a_books(self):
        for call in with_texts(BAD_TABLE, BAD_BOOK):
            self.assertEqual(ask_one(call), [-8])

    def test_a_books_fault_before_no_such_name(self):
        self.assertEqual(ask_one(find(TABLE, BAD_BOOK, "")), [-6])

    def test_nothing_begun_before_all_else(self):
        calls = [LIT, ticks(0, []), ticks(4097, [0, 9, 9, 9]), level(0), level(16), BASE, TICK]
        self.assertEqual(ask(*calls), [[-10]] * len(calls))


class BeginAndLit(unittest.TestCase):
    def test_before_any_begin(self):
        self.assertEqual(ask_one(LIT), [-10])
        self.assertEqual(ask(judge(TABLE, BOOK), LIT, shows(TABLE, ""), LIT, find(TABLE, BOOK, "first"), LIT)[1::2],
                         [[-10]] * 3)

    def test_after_a_begin_all_lamps_are_off(self):
        self.assertEqual(ask(begin(TABLE, BOOK), LIT, LIT), [[0], [0], [0]])
        self.assertEqual(ask(begin(SMALLEST, ""), LIT), [[0], [0]])

    def test_after_a_refused_begin_nothing_is_begun(self):
        calls = [begin(LONG_TABLE, BOOK), LIT, begin(BAD_TABLE, BOOK), LIT, begin(TABLE, BAD_BOOK), LIT]
        self.assertEqual(ask(*calls), [[-2], [-10], [-8], [-10], [-6, 9, 12], [-10]])

    def test_after_a_refused_second_begin_the_first_stands(self):
        for refused in (begin(LONG_TABLE, BOOK), begin(BAD_TABLE, BOOK), begin(TABLE, BAD_BOOK)):
            told = ask(begin(TABLE, BOOK), refused, LIT)
            self.assertLess(told[1][0], 0)
            self.assertEqual(told[2], [0])

    def test_a_second_begin_in_place_of_the_first(self):
        self.assertEqual(ask(begin(TABLE, BOOK), LIT, begin(SMALLEST, ""), LIT), [[0]] * 4)


class TheList(unittest.TestCase):
    def setUp(self):
        self.calls = (
            LIT + judge(TABLE, BOOK) + find(TABLE, BOOK, "loop") + begin(TABLE, BAD_BOOK) + LIT
            + begin(TABLE, "") + LIT + shows(SMALLEST, "") + judge("", "")
        )
        self.told = [1, -10, 1, 0, 2, 0, 2, 3, -6, 9, 12, 1, -10, 1, 0, 1, 0, 2, 0, 0, 1, -8]

    def test_several_calls(self):
        self.assertEqual(answers(self.calls), self.told)

    def test_it_is_not_changed(self):
        before = list(self.calls)
        answers(self.calls)
        self.assertEqual(self.calls, before)

    def test_nothing_is_kept(self):
        self.assertEqual(answers(self.calls), self.told)
        self.assertEqual(answers(LIT), [1, -10])
        self.assertEqual(answers(self.calls), self.told)

    def test_whole_numbers_in_a_list(self):
        given = answers(self.calls + shows(TABLE, BOOK))
        self.assertIs(type(given), list)
        self.assertEqual({type(number) for number in given}, {int})

    def test_what_is_given_back_is_new(self):
        first = answers(shows(TABLE, BOOK))
        kept = list(first)
        first.clear()
        self.assertEqual(answers(shows(TABLE, BOOK)), kept)

    def test_three_hundred_calls(self):
        self.assertEqual(answers(LIT * 300), [1, -10] * 300)
        calls = begin(SMALLEST, "") + LIT * 299
        self.assertEqual(answers(calls), [1, 0] * 300)

    def test_the_longest_right_book_of_a_list(self):
        size = 30000 - 3 - len(WIDE_TABLE)
        calls = judge(WIDE_TABLE, right_book_of(size))
        self.assertEqual(len(calls), 30000)
        self.assertEqual(answers(calls), [1, 0])


class ReaderOfTheList(unittest.TestCase):
    def test_all_nine_forms(self):
        calls = read_calls(
            judge("ab", "c") + shows("", "d") + find("e", "", "fg") + begin("h", "i") + LIT
            + ticks(7, [0, 1, 2, 3]) + level(15) + BASE + TICK + ticks(5, []) + level(8)
        )
        self.assertEqual([(call.name, call.wholes, call.rows) for call in calls], [
            ("judge", [], [spell("ab"), spell("c")]),
            ("shows", [], [[], spell("d")]),
            ("find", [], [spell("e"), [], spell("fg")]),
            ("begin", [], [spell("h"), spell("i")]),
            ("lit", [], []),
            ("ticks", [7], [[0, 1, 2, 3]]),
            ("level", [15], []),
            ("base", [], []),
            ("tick", [], []),
            ("ticks", [5], [[]]),
            ("level", [8], []),
        ])

    def test_calls_behind_those_that_are_refused(self):
        calls = ticks(3, [5, 5, 5, 5]) + level(5) + BASE + TICK + judge(SMALLEST, "")
        self.assertEqual(answers(calls), [1, -10] * 4 + [1, 0])


if __name__ == "__main__":
    unittest.main()
