"""D1, tables: each text is right or has one first fault. Outside, a fault is seen as -8."""

import unittest

from lampshows.faults import TextFault
from lampshows.tables import read_table
from support import SMALLEST, TABLE, ask_one, begin, find, judge, shows, spell, unmark

HEAD = "table t balls 1\n"
SWITCHES = "".join(f"switch s{k} at {k} close 1 open 1\n" for k in range(20))
COILS = "".join(f"coil c{k} at {k} most {k + 1} rest 1\n" for k in range(20))
LAMPS = "lamp one at 1\nlamp two at 2\n"
DRAIN = "device d by c0 holds s0 drain\n"
ALL = HEAD + SWITCHES + LAMPS + COILS + DRAIN


class TableCase(unittest.TestCase):
    def right(self, text):
        read_table(spell(text))
        self.assertEqual(ask_one(judge(text, "")), [0], text)

    def fault(self, text):
        try:
            read_table(spell(text))
        except TextFault as fault:
            return fault.kind, fault.place
        self.fail(f"no fault in {text!r}")

    def faulty(self, kind, marked):
        text, place = unmark(marked)
        self.assertEqual(self.fault(text), (kind, place), marked)
        for call in (judge(text, ""), shows(text, ""), find(text, "", "x"), begin(text, "")):
            self.assertEqual(ask_one(call), [-8], marked)


class RightTables(TableCase):
    def test_smallest(self):
        self.right(SMALLEST)

    def test_lines_of_every_sort(self):
        self.right(TABLE)

    def test_all(self):
        self.right(ALL)

    def test_bounds_of_balls(self):
        held = " ".join(f"s{k}" for k in range(8))
        for balls in (1, 8):
            self.right(f"table t balls {balls}\n" + SWITCHES + COILS + f"device d by c0 holds {held} drain\n")
        for balls in ("0", "9", "10"):
            self.faulty(4, f"table t balls |{balls}\n" + SMALLEST[len(HEAD):])

    def test_drains_hold_together(self):
        text = "table t balls 4\n" + SWITCHES + COILS
        text += "device d by c0 holds s0 s1 drain\ndevice e by c1 holds s2 s3 s4\n"
        self.right(text + "device f by c2 holds s5 s6 drain\n")
        self.faulty(8, text + "device f by c2 holds s5 drain\n|")

    def test_names_may_be_shared_by_sorts(self):
        self.right(
            "table x balls 1\nswitch x at 0 close 1 open 1\nlamp x at 0\n"
            "coil x at 0 most 1 rest 1\ndevice x by x holds x drain\n"
        )

    def test_marks_may_be_names(self):
        self.right(
            "table table balls 1\nswitch turned at 0 close 1 open 1\nswitch loop at 1 close 1 open 1\n"
            "lamp drain at 0\ncoil drain at 0 most 1 rest 1\ncoil loop at 1 most 1 rest 1\n"
            "device drain by drain holds turned drain\nkick loop loop for 1 till turned\n"
        )

    def test_names_of_all_bytes(self):
        self.right(SMALLEST.replace("table t", "table abcdefghijkl"))
        self.right(SMALLEST.replace("table t", "table mnopqrstuvwx"))
        self.right(SMALLEST.replace("table t", "table yz_012345678"))
        self.right(SMALLEST.replace("table t", "table z9_"))

    def test_most_of_each(self):
        text = "table t balls 8\n"
        text += "".join(f"switch s{k} at {k} close 1 open 1\n" for k in range(64))
        text += "".join(f"lamp l{k} at {k}\n" for k in range(64))
        text += "".join(f"coil c{k} at {k} most 1023 rest 1\n" for k in range(32))
        for k in range(7):
            held = " ".join(f"s{8 * k + r}" for r in range(8))
            text += f"device d{k} by c{k} holds {held} drain\n"
        text += "device d7 by c7 holds s63\n"
        for k in range(7):
            text += f"kick s{56 + k} c{8 + k} for 255 till s63\n"
        self.right(text)

    def test_a_second_switch_may_stand_in_a_device(self):
        self.right(ALL + "kick s1 c1 for 2 till s0\n")


class FaultsOfWholeTexts(TableCase):
    def test_no_byte(self):
        self.faulty(1, "|")

    def test_last_line_not_ended(self):
        self.faulty(1, "table t balls 1|")
        self.faulty(1, TABLE[:-1] + "|")
        self.faulty(1, TABLE + "x|")

    def test_unended_before_bytes_and_words(self):
        self.faulty(1, TABLE + " \x00  nonsense|")

    def test_earlier_lines_before_the_unended_one(self):
        self.faulty(3, HEAD + "|nonsense\nswitch")

    def test_first_line_alone(self):
        self.faulty(8, HEAD + "|")

    def test_drains_hold_fewer(self):
        self.faulty(8, SMALLEST.replace("balls 1", "balls 2") + "|")
        self.faulty(8, SMALLEST.replace(" drain", "") + "|")

    def test_drains_come_last(self):
        self.faulty(3, HEAD + "|nonsense\n")


class FaultsOfBytes(TableCase):
    def test_bytes_out_of_bounds(self):
        for byte in (0, 9, 11, 13, 31, 127, 128, 255):
            self.faulty(2, HEAD + "switch |" + chr(byte) + "\n")

    def test_bytes_at_the_bounds_are_words_bytes(self):
        self.faulty(4, HEAD + "switch |!\n")
        self.faulty(4, HEAD + "switch |~\n")

    def test_blanks(self):
        self.faulty(2, "| table t balls 1\n")
        self.faulty(2, "table | t balls 1\n")
        self.faulty(2, "table t balls 1| \n")
        self.faulty(2, "| \n")
        self.faulty(2, "|   \n")
        self.faulty(2, HEAD + "| switch\n")

    def test_bytes_before_words(self):
        self.faulty(2, "wrong t balls 1| \n")
        self.faulty(2, HEAD + "nonsense x|\x07\n")

    def test_first_stray_byte(self):
        self.faulty(2, "table |  t\x00 \n")
        self.faulty(2, "table|\x00  t \n")

    def test_words_of_a_line_before_the_bytes_of_the_next(self):
        self.faulty(3, "|wrong t balls 1\n\x00\n")


class FaultsOfWords(TableCase):
    def test_empty_lines(self):
        self.faulty(3, "|\n")
        self.faulty(3, HEAD + "|\n" + SWITCHES)
        self.faulty(3, TABLE + "|\n")

    def test_first_words(self):
        for word in ("switch", "lamp", "coil", "device", "kick", "tables", "tabl", "Table"):
            self.faulty(3, f"|{word} t balls 1\n")
        for word in ("table", "show", "switchs", "swit", "SWITCH", "drain"):
            self.faulty(3, HEAD + f"|{word} t balls 1\n")

    def test_a_sort_that_cannot_come_any_more(self):
        parts = (SWITCHES, LAMPS, COILS, DRAIN, "kick s1 c1 for 1\n")
        lines = ("switch z at 60 close 1 open 1", "lamp z at 60", "coil z at 30 most 1 rest 1", "device z by c2 holds s2")
        for later in range(1, 5):
            for line in lines[:later]:
                self.faulty(3, HEAD + "".join(parts[:later + 1]) + f"|{line}\n")

    def test_missing_words_are_told_at_the_newline(self):
        lines = {
            HEAD + SWITCHES: ("switch z at 60 close 1 open 1", "lamp z at 60", "coil z at 30 most 1 rest 1 hold 1"),
            HEAD + SWITCHES + COILS: ("device z by c1 holds s1", "kick s2 c2 for 1 till s3"),
            "": ("table t balls 1",),
        }
        for before in lines:
            for line in lines[before]:
                words = line.split(" ")
                for count in range(1, len(words)):
                    if words[count] not in ("hold", "till"):
                        self.faulty(3, before + " ".join(words[:count]) + "|\n")

    def test_marks(self):
        lines = {
            HEAD + SWITCHES: ("switch z at 60 close 1 open 1 turned", "lamp z at 60",
                              "coil z at 30 most 1 rest 1 hold 1"),
            HEAD + SWITCHES + COILS: ("device z by c1 holds s1", "kick s2 c2 for 1 till s3"),
            "": ("table t balls 1",),
        }
        marks = ("balls", "at", "close", "open", "turned", "most", "rest", "hold", "by", "holds", "for", "till")
        seen = []
        for before in lines:
            for line in lines[before]:
                words = line.split(" ")
                for count, word in enumerate(words):
                    if word in marks:
                        seen.append(word)
                        for wrong in ("x", "5", word + "s", word.upper(), "~"):
                            changed = words[:count] + ["|" + wrong] + words[count + 1:]
                            self.faulty(3, before + " ".join(changed) + "\n")
        self.assertEqual(sorted(set(seen)), sorted(marks))

    def test_words_behind_the_last(self):
        self.faulty(3, "table t balls 1 |x\n")
        self.faulty(3, HEAD + "switch z at 0 close 1 open 1 turned |turned\n")
        self.faulty(3, HEAD + "lamp z at 0 |x\n")
        self.faulty(3, HEAD + "coil z at 0 most 1 rest 1 hold 1 |hold\n")
        self.faulty(3, HEAD + SWITCHES + COILS + "device z by c1 holds s1 drain |s2\n")
        self.faulty(3, HEAD + SWITCHES + COILS + "device z by c1 holds s1 drain |drain\n")
        self.faulty(3, HEAD + SWITCHES + COILS + "kick s2 c2 for 1 till s3 |till\n")

    def test_behind_the_eighth_switch(self):
        text = HEAD + SWITCHES + COILS + "device z by c1 holds s0 s1 s2 s3 s4 s5 s6 s7"
        self.right(text + " drain\n")
        for word in ("s8", "s0", "7", "drains", "~"):
            self.faulty(3, text + f" |{word}\n")
        self.faulty(3, text + " drain |drain\n")

    def test_ninth_device(self):
        text = HEAD + SWITCHES + COILS
        text += "".join(f"device d{k} by c{k} holds s{k} drain\n" for k in range(8))
        self.right(text)
        self.faulty(3, text + "|device d8 by c8 holds s8\n")
        self.faulty(3, text + "|device\n")

    def test_ninth_kick(self):
        text = ALL + "".join(f"kick s{k} c{k} for 1\n" for k in range(1, 9))
        self.right(text)
        self.faulty(3, text + "|kick s9 c9 for 1\n")
        self.faulty(3, text + "|kick\n")


class FaultsOfValues(TableCase):
    def test_words_that_are_no_names(self):
        for word in ("1a", "_a", "A", "aB", "a-b", "a.", "abcdefghijklm", "9", "a{", "a`", "a/", "a:"):
            self.faulty(4, f"table |{word} balls 1\n")
            self.faulty(4, HEAD + f"switch |{word} at 0 close 1 open 1\n")
            self.faulty(4, HEAD + f"lamp |{word} at 0\n")
            self.faulty(4, HEAD + f"coil |{word} at 0 most 1 rest 1\n")
            self.faulty(4, ALL + f"device |{word} by c1 holds s1\n")
            self.faulty(4, ALL + f"device z by |{word} holds s1\n")
            self.faulty(4, ALL + f"device z by c1 holds |{word}\n")
            self.faulty(4, ALL + f"device z by c1 holds s1 |{word}\n")
            self.faulty(4, ALL + f"kick |{word} c1 for 1\n")
            self.faulty(4, ALL + f"kick s1 |{word} for 1\n")
            self.faulty(4, ALL + f"kick s1 c1 for 1 till |{word}\n")

    def test_barred_names(self):
        self.faulty(4, HEAD + "switch |drain at 0 close 1 open 1\n")
        self.faulty(4, HEAD + SWITCHES + "switch |drain at 0 close 1 open 1\n")
        self.faulty(4, HEAD + "lamp |loop at 0\n")

    def test_words_that_are_no_numbers(self):
        for word in ("x", "01", "00", "1x", "-1", "+1", "1.0", "/", ":", "0x1", "1_0", "9" * 5000):
            self.faulty(4, f"table t balls |{word}\n")
            self.faulty(4, HEAD + f"switch z at |{word} close 1 open 1\n")
            self.faulty(4, ALL + f"kick s1 c1 for |{word}\n")

    def test_bounds(self):
        rows = (
            ("switch z at {} close 1 open 1", 0, 63),
            ("switch z at 0 close {} open 1", 1, 31),
            ("switch z at 0 close 1 open {}", 1, 31),
            ("lamp z at {}", 0, 63),
            ("coil z at {} most 1 rest 1", 0, 31),
            ("coil z at 0 most {} rest 1", 1, 1023),
            ("coil z at 0 most 1 rest {}", 1, 4095),
            ("coil z at 0 most 1 rest 1 hold {}", 1, 15),
        )
        for form, least, most in rows:
            for number in (least, most):
                self.assertEqual(self.fault(HEAD + form.format(number) + "\n")[0], 8)
            for number in (least - 1, most + 1, most * 10, 4294967296 + least):
                self.faulty(4, HEAD + form.format(f"|{number}") + "\n")

    def test_bounds_of_a_kick(self):
        text = ALL.replace("coil c1 at 1 most 2 ", "coil c1 at 1 most 1023 ")
        for number in (1, 255):
            self.right(text + f"kick s1 c1 for {number}\n")
        for number in (0, 256, 1023, 1024):
            self.faulty(4, text + f"kick s1 c1 for |{number}\n")


class FaultsOfNewNames(TableCase):
    def test_names_that_the_sort_has(self):
        self.faulty(5, ALL.replace("switch s7 ", "switch |s3 "))
        self.faulty(5, ALL.replace("lamp two ", "lamp |one "))
        self.faulty(5, ALL.replace("coil c7 ", "coil |c3 "))
        self.faulty(5, ALL + "device |d by c1 holds s1\n")

    def test_places_that_do_not_rise(self):
        for place in (0, 6):
            self.faulty(5, ALL.replace("switch s7 at 7 ", f"switch s7 at |{place} "))
            self.faulty(5, ALL.replace("coil c7 at 7 ", f"coil c7 at |{place} "))
        for place in (0, 1):
            self.faulty(5, ALL.replace("lamp two at 2\n", f"lamp two at |{place}\n"))

    def test_places_of_kicks(self):
        text = ALL + "kick s5 c5 for 1\n"
        self.right(text + "kick s6 c6 for 1\n")
        self.faulty(5, text + "kick |s5 c6 for 1\n")
        self.faulty(5, text + "kick |s4 c6 for 1\n")

    def test_a_places_bound_comes_first(self):
        self.faulty(4, ALL.replace("lamp two at 2\n", "lamp two at |64\n"))


class FaultsOfKnownNames(TableCase):
    def test_names_that_do_not_stand_before(self):
        self.faulty(6, ALL + "device z by |s1 holds s1\n")
        self.faulty(6, ALL + "device z by c1 holds |c1\n")
        self.faulty(6, ALL + "device z by c1 holds s1 |one\n")
        self.faulty(6, ALL + "kick |c1 c1 for 1\n")
        self.faulty(6, ALL + "kick s1 |s1 for 1\n")
        self.faulty(6, ALL + "kick s1 c1 for 1 till |c1\n")

    def test_drain_behind_holds(self):
        self.faulty(6, ALL + "device z by c1 holds |drain\n")
        self.faulty(6, ALL + "kick |drain c1 for 1\n")


class Clashes(TableCase):
    def test_of_devices(self):
        self.faulty(7, ALL + "device z by |c0 holds s1\n")
        self.faulty(7, ALL + "device z by c1 holds |s0\n")
        self.faulty(7, ALL + "device z by c1 holds s1 s2 |s1\n")
        self.faulty(7, ALL + "device y by c1 holds s1\ndevice z by c2 holds s2 |s1\n")

    def test_of_kicks(self):
        self.faulty(7, ALL + "kick |s0 c1 for 1\n")
        self.faulty(7, ALL + "kick s1 |c0 for 1\n")
        self.faulty(7, ALL + "kick s1 c1 for 1\nkick s2 |c1 for 1\n")
        self.faulty(7, ALL + "kick s1 c1 for 1 till |s1\n")

    def test_a_kick_is_no_longer_than_its_coil_bears(self):
        self.right(ALL + "kick s1 c4 for 5\n")
        self.faulty(7, ALL + "kick s1 c4 for |6\n")


class WhichFaultIsFirst(TableCase):
    def test_words_from_left_to_right(self):
        self.faulty(4, "table |X ball 9 x\n")
        self.faulty(3, "table x |ball 9 x\n")
        self.faulty(4, "table x balls |9 x\n")
        self.faulty(6, ALL + "device z by |c99 hold S\n")
        self.faulty(7, ALL + "device z by |c0 hold S\n")
        self.faulty(5, ALL.replace("lamp two at 2\n", "lamp |one at 1 x\n"))

    def test_of_one_word_the_least_kind(self):
        text = HEAD + SWITCHES + COILS + "device d by c0 holds s3 drain\nkick s5 c5 for 1\n"
        self.faulty(5, text + "kick |s3 c6 for 1\n")
        self.faulty(4, ALL + "kick s1 c1 for |999\n")

    def test_a_missing_word_behind_a_wrong_one(self):
        self.faulty(4, "table |X\n")
        self.faulty(3, "table x|\n")


if __name__ == "__main__":
    unittest.main()
