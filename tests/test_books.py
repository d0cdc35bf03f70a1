"""D1, books: each text is one book's or has one first fault, with its kind and place; each book has one text."""

import unittest

from support import ALL_LAMPS, BOOK, SMALLEST, TABLE, ask, ask_one, begin, find, judge, shows, unmark

SHOW = "show x on a b d\n"


def rebuild(answer, lamps):
    """The text of a book, from what shows answers and from the names of the table's lamps by place."""
    numbers = iter(answer)

    def some(count):
        return [next(numbers) for k in range(count)]

    def names():
        return "".join(" " + lamps[place] for place in some(next(numbers)))

    def lines_of_show():
        loops = next(numbers)
        lamps_told = names()
        steps = "".join(f"step {next(numbers)}{names()}\n" for k in range(next(numbers)))
        name = bytes(some(next(numbers))).decode()
        return f"show {name} on{lamps_told}" + " loop" * loops + "\n" + steps

    assert next(numbers) == 0
    text = "".join(lines_of_show() for k in range(next(numbers)))
    assert list(numbers) == []
    return text


class BookCase(unittest.TestCase):
    def right(self, book, table=TABLE):
        self.assertEqual(ask_one(judge(table, book)), [0], book)
        self.assertEqual(ask_one(begin(table, book)), [0], book)

    def faulty(self, kind, marked, table=TABLE):
        book, place = unmark(marked)
        self.assertEqual(ask_one(judge(table, book)), [-6, kind, place], marked)
        self.assertEqual(ask_one(begin(table, book)), [-6, kind, place], marked)
        self.assertEqual(ask_one(shows(table, book)), [-6], marked)
        self.assertEqual(ask_one(find(table, book, "x")), [-6], marked)


class RightBooks(BookCase):
    def test_no_byte(self):
        self.right("")
        self.right("", SMALLEST)

    def test_smallest_with_a_show(self):
        self.right("show x on a\nstep 1\n")

    def test_lines_of_every_sort(self):
        self.right(BOOK)

    def test_names(self):
        for name in ("a", "show", "step", "on", "loop", "z_9", "abcdefghijkl"):
            self.right(f"show {name} on a\nstep 1\n")

    def test_bounds_of_ticks(self):
        for count in (1, 65535):
            self.right(SHOW + f"step {count}\n")
        for count in (0, 65536, 99999, 100000, 4294967297):
            self.faulty(4, SHOW + f"step |{count}\n")

    def test_sixteen_steps(self):
        self.right(SHOW + "step 1\n" * 16)

    def test_thirty_two_shows(self):
        self.right("".join(f"show x{k} on a\nstep 1\n" for k in range(32)))

    def test_all_lamps(self):
        names = " ".join(f"l{k}" for k in range(64))
        self.right(f"show x on {names} loop\nstep 1 {names}\n", ALL_LAMPS)


class FaultsOfWholeTexts(BookCase):
    def test_last_line_not_ended(self):
        self.faulty(1, "s|")
        self.faulty(1, BOOK[:-1] + "|")
        self.faulty(1, BOOK + "\x00  nonsense |")

    def test_earlier_lines_first(self):
        self.faulty(3, "|nonsense\nshow")

    def test_last_show_has_no_step(self):
        self.faulty(9, SHOW + "|")
        self.faulty(9, BOOK + SHOW + "|")

    def test_unended_step_behind_a_show_without_one(self):
        self.faulty(1, SHOW + "step 1|")


class FaultsOfBytes(BookCase):
    def test_bytes(self):
        for byte in (0, 9, 31, 127, 255):
            self.faulty(2, SHOW + "step 1|" + chr(byte) + "\n")

    def test_blanks(self):
        self.faulty(2, "| \n")
        self.faulty(2, "| show x on a\n")
        self.faulty(2, "show | x on a\n")
        self.faulty(2, "show x on a| \n")

    def test_bytes_before_words(self):
        self.faulty(2, "step 0| \n")


class FaultsOfWords(BookCase):
    def test_first_words(self):
        for word in ("shows", "sho", "table", "lamp", "Step", "loop"):
            self.faulty(3, f"|{word} x on a\n")
            self.faulty(3, BOOK + f"|{word} x on a\n")
        self.faulty(3, "|\n")
        self.faulty(3, BOOK + "|\n")

    def test_step_before_a_show(self):
        self.faulty(3, "|step 1\n")
        self.faulty(3, "|step\n")

    def test_show_where_the_show_before_has_no_step(self):
        self.faulty(3, SHOW + "|show y on a\nstep 1\n")
        self.faulty(3, BOOK + SHOW + "|show\n")

    def test_seventeenth_step(self):
        self.faulty(3, SHOW + "step 1\n" * 16 + "|step 1\n")
        self.faulty(3, SHOW + "step 1\n" * 16 + "|step\n")

    def test_steps_are_counted_for_each_show(self):
        self.right(SHOW + "step 1\n" * 16 + "show y on a\n" + "step 2\n" * 16)

    def test_thirty_third_show(self):
        book = "".join(f"show x{k} on a\nstep 1\n" for k in range(32))
        self.faulty(3, book + "|show y on a\nstep 1\n")
        self.faulty(3, book + "|show X\n")
        self.right(book + "step 1\n")

    def test_missing_words(self):
        for line in ("show|\n", "show x|\n", "show x on|\n", SHOW + "step|\n"):
            self.faulty(3, line)

    def test_marks(self):
        for word in ("a", "in", "ON", "onn", "loop", "5"):
            self.faulty(3, f"show x |{word} a\nstep 1\n")

    def test_words_behind_loop(self):
        self.faulty(3, "show x on a loop |b\nstep 1\n")
        self.faulty(3, "show x on a b loop |loop\nstep 1\n")
        self.faulty(3, "show x on a loop |~\nstep 1\n")


class FaultsOfValues(BookCase):
    def test_words_that_are_no_names(self):
        for word in ("1a", "_a", "A", "aB", "a-b", "abcdefghijklm", "9", "~"):
            self.faulty(4, f"show |{word} on a\nstep 1\n")
            self.faulty(4, f"show x on |{word}\nstep 1\n")
            self.faulty(4, f"show x on a |{word}\nstep 1\n")
            self.faulty(4, SHOW + f"step 1 |{word}\n")
            self.faulty(4, SHOW + f"step 1 a |{word}\n")

    def test_words_that_are_no_numbers(self):
        for word in ("a", "01", "00", "0", "1x", "-1", "+1", "1.0", "/", ":", "9" * 9000):
            self.faulty(4, SHOW + f"step |{word} a\n")


class FaultsOfNewNames(BookCase):
    def test_a_shows_name(self):
        self.faulty(5, BOOK + "show |first on a\nstep 1\n")
        self.faulty(5, BOOK + "show |loop on a\nstep 1\n")

    def test_lamps_rise_in_a_show(self):
        self.faulty(5, "show x on b |a\nstep 1\n")
        self.faulty(5, "show x on a |a\nstep 1\n")
        self.faulty(5, "show x on a d |c loop\nstep 1\n")

    def test_lamps_rise_in_a_step(self):
        self.faulty(5, SHOW + "step 1 b |a\n")
        self.faulty(5, SHOW + "step 1 a |a\n")

    def test_each_line_begins_below(self):
        self.right("show x on a d\nstep 1 d\nstep 1 a\nshow y on a\nstep 1 a\n")


class FaultsOfLamps(BookCase):
    def test_lamps_that_the_table_has_not(self):
        self.faulty(6, "show x on |e\nstep 1\n")
        self.faulty(6, "show x on a |left\nstep 1\n")
        self.faulty(6, SHOW + "step 1 |e\n")
        self.faulty(6, "show x on |a\nstep 1\n", SMALLEST)

    def test_lamps_that_the_show_has_not(self):
        self.faulty(6, SHOW + "step 1 a |c\n")
        self.faulty(6, "show y on c\nstep 1 c\n" + SHOW + "step 1 |c\n")

    def test_of_one_word_five_comes_before_six(self):
        self.faulty(5, SHOW + "step 1 d |c\n")
        self.faulty(6, SHOW + "step 1 d |e\n")

    def test_loop_in_a_lamps_stead(self):
        self.faulty(6, "show x on |loop\nstep 1\n")
        self.faulty(6, "show x on |loop loop\nstep 1\n")
        self.faulty(6, SHOW + "step 1 a |loop\n")
        self.faulty(6, SHOW + "step 1 |loop\n")


class WhichFaultIsFirst(BookCase):
    def test_words_from_left_to_right(self):
        self.faulty(4, "show |X at A\n")
        self.faulty(3, "show x |at A\n")
        self.faulty(6, "show x on |e b a loop x\n")
        self.faulty(5, "show x on b |a e loop x\n")
        self.faulty(4, SHOW + "step |0 e\n")

    def test_a_missing_word_behind_a_wrong_one(self):
        self.faulty(5, BOOK + "show |first\n")
        self.faulty(3, "show x|\n")

    def test_words_of_a_line_before_the_bytes_of_the_next(self):
        self.faulty(6, "show x on |e\n\x00\n")


class Shows(BookCase):
    def test_every_number(self):
        self.assertEqual(ask_one(shows(TABLE, BOOK)), [
            0, 3,
            1, 3, 0, 7, 63, 3, 1, 2, 0, 63, 65535, 0, 20, 1, 7, 5, *b"first",
            0, 1, 8, 1, 7, 1, 8, 6, *b"second",
            0, 4, 0, 7, 8, 63, 2, 3, 0, 4, 4, 0, 7, 8, 63, 4, *b"loop",
        ])

    def test_no_show(self):
        self.assertEqual(ask_one(shows(TABLE, "")), [0, 0])

    def test_each_book_has_one_text(self):
        lamps = {0: "a", 7: "b", 8: "c", 63: "d"}
        books = ("", BOOK, "show x on a\nstep 1\n", SHOW + "step 65535 a b d\n" * 16)
        for book in books:
            self.assertEqual(rebuild(ask_one(shows(TABLE, book)), lamps), book)

    def test_a_changed_byte_is_a_fault_or_another_book(self):
        lamps = {0: "a", 7: "b", 8: "c", 63: "d"}
        right = 0
        for place in range(len(BOOK)):
            for sign in "ab01_ \n~":
                book = BOOK[:place] + sign + BOOK[place + 1:]
                judged = ask_one(judge(TABLE, book))
                if judged == [0]:
                    right += 1
                    self.assertEqual(rebuild(ask_one(shows(TABLE, book)), lamps), book)
                else:
                    self.assertEqual(judged[0], -6)
                    self.assertIn(judged[1], (1, 2, 3, 4, 5, 6, 9))
                    self.assertLessEqual(judged[2], len(book))
        self.assertGreater(right, 0)


class Find(BookCase):
    def found(self, name):
        return ask_one(find(TABLE, BOOK, name))

    def test_first_middle_last(self):
        self.assertEqual([self.found(name) for name in ("first", "second", "loop")], [[0, 0], [0, 1], [0, 2]])

    def test_no_such_name(self):
        for name in ("third", "firs", "firstx", "First", "a", "\x00", "first ", "x" * 1000):
            self.assertEqual(self.found(name), [-4], name)

    def test_empty_name(self):
        self.assertEqual(self.found(""), [-4])
        self.assertEqual(ask_one(find(TABLE, "", "")), [-4])

    def test_in_a_book_of_no_show(self):
        self.assertEqual(ask_one(find(TABLE, "", "first")), [-4])

    def test_the_last_of_many(self):
        book = "".join(f"show x{k} on a\nstep 1\n" for k in range(32))
        answers = ask(*[find(TABLE, book, f"x{k}") for k in range(32)])
        self.assertEqual(answers, [[0, k] for k in range(32)])


if __name__ == "__main__":
    unittest.main()
