"""Promise 1: which lines are right, and the fault of a text."""

import unittest

import helper
from helper import DONE, SIZES, TEXT, ask, fault_of, take, told
from mailmoves.lines import NotALine, read_line

MOVES = (
    "move 1 2 3",
    "move 1 2 3 until 4",
    "move 1 2 3 open",
    "move 1 2 3 for anna",
    "move 1 2 3 until 4 open",
    "move 1 2 3 until 4 for anna",
    "move 1 2 3 open for anna",
    "move 1 2 3 until 4 open for anna b2 c",
)
HOLDS = (
    "hold 1 3 until 4",
    "hold 1 3 until 4 for anna",
    "hold 1 3 until 4 for anna b2 c",
)
STOPS = (
    "stop 1 3",
    "stop 1 3 until 4",
    "stop 1 3 for anna",
    "stop 1 3 until 4 for anna b2 c",
)
# Each kind of line up to its words, so that what may stand there is tried in all.
HEADS = ("move 1 2 3", "move 1 2 3 until 4", "move 1 2 3 open", "hold 1 3 until 4", "stop 1 3", "stop 1 3 until 4")


class LineTest(unittest.TestCase):
    def right(self, line):
        with self.subTest(line=line[:80]):
            text = line + "\n"
            self.assertEqual(ask(take(text), TEXT), [DONE, told(text)])

    def wrong(self, line):
        with self.subTest(line=line[:80]):
            self.assertEqual(ask(take(line + "\n"), TEXT), [[-6, 0, 1], [0]])


class OrdinaryLines(LineTest):
    def test_each_kind_with_and_without_each_part(self):
        for line in MOVES + HOLDS + STOPS:
            self.right(line)

    def test_each_kind_is_counted_as_what_it_is(self):
        for lines, kind in ((MOVES, 0), (HOLDS, 1), (STOPS, 2)):
            for line in lines:
                counts = [0, 0, 0]
                counts[kind] = 1
                self.assertEqual(ask(take(line + "\n"), SIZES), [DONE, [0, 1] + counts])

    def test_a_text_of_no_lines_is_right(self):
        self.assertEqual(ask(take("")), [DONE])

    def test_lines_of_all_kinds_together(self):
        text = "\n".join(MOVES + HOLDS + STOPS) + "\n"
        self.assertEqual(ask(take(text), TEXT, SIZES), [DONE, told(text), [0, 15, 8, 3, 4]])

    def test_the_same_line_may_stand_twice(self):
        self.assertEqual(ask(take("stop 1 3\nstop 1 3\n"), SIZES), [DONE, [0, 2, 0, 0, 2]])


class WhatALineSays(unittest.TestCase):
    def parts(self, row):
        line = read_line(list(row))
        return (line.kind, line.point, line.target, line.first_day, line.end_day, line.told_to_all, line.words)

    def test_parts_that_are_told(self):
        self.assertEqual(self.parts(b"move 1 2 3 until 4 open for anna b2"),
                         ("move", 1, 2, 3, 4, True, ["anna", "b2"]))
        self.assertEqual(self.parts(b"hold 5 6 until 7 for open"), ("hold", 5, None, 6, 7, False, ["open"]))
        self.assertEqual(self.parts(b"stop 8 9 until 10 for 0"), ("stop", 8, None, 9, 10, False, ["0"]))

    def test_parts_that_are_left_out(self):
        self.assertEqual(self.parts(b"move 4095 0 1000000"), ("move", 4095, 0, 1000000, None, False, None))
        self.assertEqual(self.parts(b"move 1 2 3 for open"), ("move", 1, 2, 3, None, False, ["open"]))
        self.assertEqual(self.parts(b"hold 0 0 until 1"), ("hold", 0, None, 0, 1, False, None))
        self.assertEqual(self.parts(b"stop 0 0"), ("stop", 0, None, 0, None, False, None))

    def test_each_letter_of_a_word(self):
        letters = b"abcdefghijklmnopqrstuvwxyz 0123456789"
        self.assertEqual(self.parts(b"stop 0 0 for " + letters)[-1], letters.decode().split())

    def test_no_line(self):
        for row in (b"", b"stop 1 3\n", b"stop 1"):
            with self.assertRaises(NotALine):
                read_line(list(row))


class PartsOfLines(LineTest):
    def test_a_part_that_must_stand_there_is_missing(self):
        for line in ("move", "move 1", "move 1 2", "move 1 2 until 4", "move 1 2 open", "move 1 2 for anna",
                     "hold", "hold 1", "hold 1 3", "hold 1 until 4", "hold 1 3 for anna", "hold 1 3 until",
                     "stop", "stop 1", "stop 1 until 4", "stop 1 for anna"):
            self.wrong(line)

    def test_a_part_too_many(self):
        for line in ("move 1 2 3 4", "move 1 2 3 until 4 5", "move 1 2 3 until 4 until 5", "move 1 2 3 open open",
                     "move 1 2 3 anna", "move 1 2 3 open anna", "hold 1 2 3 until 4", "hold 1 3 until 4 5",
                     "hold 1 3 until 4 anna", "stop 1 2 3", "stop 1 3 until 4 5", "stop 1 3 anna"):
            self.wrong(line)

    def test_open_stands_in_a_move_alone(self):
        for line in ("hold 1 3 until 4 open", "hold 1 3 until 4 open for anna", "stop 1 3 open",
                     "stop 1 3 until 4 open", "stop 1 3 open for anna"):
            self.wrong(line)

    def test_parts_in_another_order(self):
        for line in ("move 1 2 3 open until 4", "move 1 2 until 4 3", "move open 1 2 3", "1 2 3 move",
                     "hold 1 until 4 3", "until 4 stop 1 3", "for anna stop 1 3"):
            self.wrong(line)

    def test_other_first_words(self):
        for word in ("moves", "mov", "Move", "MOVE", "keep", "until", "open", "for", "0", "movehold", "m ove"):
            self.wrong(word + " 1 2 3")
            self.wrong(word + " 1 3")
            self.wrong(word + " 1 3 until 4")

    def test_other_words_for_until_open_and_for(self):
        for line in ("move 1 2 3 till 4", "move 1 2 3 untill 4", "move 1 2 3 Until 4", "move 1 2 3 until4",
                     "move 1 2 3 opened", "move 1 2 3 Open", "move 1 2 3 fo anna", "move 1 2 3 For anna",
                     "hold 1 3 to 4", "stop 1 3 four anna", "move 1 2 3 until open", "move 1 2 3 until for anna"):
            self.wrong(line)


class Points(LineTest):
    def test_points_at_the_edges(self):
        for line in ("move 0 4095 3", "move 4095 0 3", "move 4094 4095 3", "hold 0 3 until 4",
                     "hold 4095 3 until 4", "stop 0 3", "stop 4095 3"):
            self.right(line)

    def test_points_above(self):
        for point in ("4096", "4100", "5000", "9999", "10000", "4294967296"):
            for line in (f"move {point} 2 3", f"move 1 {point} 3", f"hold {point} 3 until 4", f"stop {point} 3"):
                self.wrong(line)

    def test_a_move_to_the_point_itself(self):
        for point in ("0", "7", "4095"):
            self.wrong(f"move {point} {point} 3")
            self.wrong(f"move {point} {point} 3 until 4 open for anna")

    def test_other_numbers_may_be_alike(self):
        for line in ("move 3 2 3", "move 1 3 3", "move 4 2 3 until 4", "hold 3 3 until 4", "hold 4 3 until 4",
                     "stop 3 3"):
            self.right(line)


class Days(LineTest):
    def test_days_at_the_edges(self):
        for line in ("move 1 2 0", "move 1 2 1000000", "stop 1 0", "stop 1 1000000", "stop 1 999999"):
            self.right(line)
        for head in ("move 1 2", "hold 1", "stop 1"):
            for days in ("0 until 1", "0 until 1000000", "999999 until 1000000", "9 until 10", "99 until 100"):
                first, until, end = days.split()
                self.right(f"{head} {first} {until} {end}")

    def test_days_above(self):
        for day in ("1000001", "1000010", "2000000", "9999999", "10000000", "4294967296"):
            for line in (f"move 1 2 {day}", f"stop 1 {day}", f"move 1 2 3 until {day}", f"hold 1 3 until {day}",
                         f"hold 1 {day} until 1000000", f"stop 1 3 until {day}"):
                self.wrong(line)

    def test_from_that_is_not_below_to(self):
        for head in ("move 1 2", "hold 1", "stop 1"):
            for days in ("0 until 0", "5 until 5", "5 until 4", "10 until 9", "1000000 until 1000000", "1 until 0",
                         "1000000 until 999999"):
                self.wrong(f"{head} {days}")
                self.wrong(f"{head} {days} for anna")


class Numbers(LineTest):
    def each_place(self, number):
        return (f"move {number} 2 3", f"move 1 {number} 3", f"move 1 2 {number}", f"move 1 2 0 until {number}",
                f"hold {number} 3 until 4", f"hold 1 {number} until 9", f"hold 1 0 until {number}",
                f"stop {number} 3", f"stop 1 {number}", f"stop 1 0 until {number}")

    def test_the_tried_places_are_right_but_for_the_number(self):
        for line in self.each_place("7"):
            self.right(line)

    def test_a_zero_first(self):
        for number in ("07", "00", "007", "0000000007", "00000000000000000000000000"):
            for line in self.each_place(number):
                self.wrong(line)

    def test_zero_itself(self):
        for line in ("move 0 2 0", "move 1 0 0", "hold 0 0 until 4", "stop 0 0"):
            self.right(line)

    def test_no_digits(self):
        for number in ("a", "7a", "a7", "-7", "+7", "7.0", "7,000", "0x7", "1e3", "1_0", "seven", "\xb2", "\xb9"):
            for line in self.each_place(number):
                self.wrong(line)

    def test_very_many_digits(self):
        for size in (8, 19, 20, 40, 4299, 4300, 4301, 5000, 30000):
            for digit in "019":
                for line in self.each_place(digit * size):
                    self.wrong(line)


class Words(LineTest):
    def test_how_many_words(self):
        for head in HEADS:
            for many in range(1, 9):
                self.right(head + " for" + " a" * many)
            for many in (9, 10, 100, 10000):
                self.wrong(head + " for" + " a" * many)

    def test_no_word_behind_for(self):
        for head in HEADS:
            self.wrong(head + " for")
            self.wrong(head + " for ")

    def test_how_many_letters(self):
        for head in HEADS:
            for sign in "az09":
                for size in (1, 2, 31, 32):
                    self.right(f"{head} for {sign * size}")
                for size in (33, 34, 64, 20000):
                    self.wrong(f"{head} for {sign * size}")

    def test_a_long_word_at_each_place(self):
        for many in range(1, 9):
            for place in range(many):
                words = ["z" * 32] * many
                self.right("stop 1 3 for " + " ".join(words))
                words[place] = "z" * 33
                self.wrong("stop 1 3 for " + " ".join(words))

    def test_words_that_are_also_the_documents_own(self):
        for head in HEADS:
            for word in ("for", "open", "until", "move", "hold", "stop"):
                self.right(f"{head} for {word}")
                self.right(f"{head} for {word} {word}")
                self.right(f"{head} for anna {word} 4")
            self.right(f"{head} for until 4 open for anna")
            self.right(f"{head} for for for for for for for for for")

    def test_words_of_digits(self):
        for word in ("0", "00", "007", "4096", "9" * 32):
            self.right(f"stop 1 3 for {word}")

    def test_signs_that_are_no_letters(self):
        for byte in range(256):
            sign = chr(byte)
            for word in (sign, sign + "a", "a" + sign, "a" + sign + "a"):
                text = f"stop 1 3 for {word}\n"
                with self.subTest(byte=byte, word=word):
                    expected = fault_of(text.encode("latin-1")) or DONE
                    self.assertEqual(ask(take(text)), [expected])
                    if not (sign.isascii() and (sign.isdigit() or sign.islower())) and sign not in " \n":
                        self.assertEqual(expected, [-6, 0, 1])


class BlanksAndLineFeeds(LineTest):
    def test_blanks(self):
        for line in MOVES + HOLDS + STOPS:
            self.wrong(" " + line)
            self.wrong(line + " ")
            for place, sign in enumerate(line):
                if sign == " ":
                    self.wrong(line[:place] + " " + line[place:])
                    self.wrong(line[:place] + line[place + 1:] + " ")
                    self.wrong(line[:place] + "\t" + line[place + 1:])

    def test_lines_of_blanks_alone(self):
        for line in ("", " ", "  ", " " * 30000):
            self.wrong(line)

    def test_empty_lines(self):
        self.assertEqual(ask(take("\n")), [[-6, 0, 1]])
        self.assertEqual(ask(take("\nstop 1 3\n")), [[-6, 0, 1]])
        self.assertEqual(ask(take("stop 1 3\n\n")), [[-6, 1, 1]])
        self.assertEqual(ask(take("stop 1 3\n\nstop 1 3\n")), [[-6, 1, 1]])

    def test_a_last_line_without_its_line_feed(self):
        for line in MOVES + HOLDS + STOPS:
            self.assertEqual(ask(take(line), TEXT), [[-6, 0, 1], [0]])
            self.assertEqual(ask(take("stop 1 3\n" + line), TEXT), [[-6, 1, 1], [0]])
        self.assertEqual(ask(take(" ")), [[-6, 0, 1]])
        self.assertEqual(ask(take("\x00")), [[-6, 0, 1]])

    def test_other_line_ends(self):
        for end in ("\r\n", "\r", "\n\r", "\x0b\n", "\x0c\n", "\x85\n", "\x00\n"):
            self.assertEqual(ask(take("stop 1 3" + end))[0][0], -6, repr(end))

    def test_each_byte_alone_and_in_each_place_of_a_line(self):
        for line in (b"move 1 20 3 until 40 open for an 0\n", b"hold 0 9 until 10 for z9\n", b"stop 1 3\n"):
            for byte in range(256):
                sign = bytes([byte])
                texts = [sign]
                for place in range(len(line) + 1):
                    texts.append(line[:place] + sign + line[place:])
                    texts.append(line[:place] + sign + line[place + 1:])
                calls = [take(text) for text in texts]
                expected = [fault_of(text) or DONE for text in texts]
                self.assertEqual(ask(*calls), expected, byte)

    def test_a_line_cut_at_each_place(self):
        for line in MOVES + HOLDS + STOPS:
            row = line.encode()
            for first in range(len(row)):
                for last in range(first, len(row) + 1):
                    text = row[:first] + row[last:] + b"\n"
                    self.assertEqual(ask(take(text)), [fault_of(text) or DONE], text)


class TheFault(unittest.TestCase):
    RIGHT = ("move 1 2 3", "hold 1 3 until 4", "stop 1 3", "stop 2 3 for anna", "move 5 6 7 open")

    def text_with(self, *places):
        return "".join([("stop 1\n" if k in places else line + "\n") for k, line in enumerate(self.RIGHT)])

    def test_a_fault_in_each_line(self):
        self.assertEqual(ask(take(self.text_with())), [DONE])
        for place in range(len(self.RIGHT)):
            self.assertEqual(ask(take(self.text_with(place)), TEXT, SIZES), [[-6, place, 1], [0], [0, 0, 0, 0, 0]])

    def test_the_first_of_more_faults(self):
        for first in range(len(self.RIGHT)):
            for later in range(first + 1, len(self.RIGHT)):
                self.assertEqual(ask(take(self.text_with(first, later))), [[-6, first, 1]])
        self.assertEqual(ask(take(self.text_with(*range(5)))), [[-6, 0, 1]])

    def test_a_wrong_line_before_one_without_its_line_feed(self):
        self.assertEqual(ask(take("stop 1 3\nstop 1\nstop 1 3")), [[-6, 1, 1]])

    def test_a_wrong_line_without_its_line_feed(self):
        self.assertEqual(ask(take("stop 1 3\nstop 1")), [[-6, 1, 1]])

    def test_a_fault_far_behind(self):
        for many in (1, 100, 3000):
            self.assertEqual(ask(take("stop 0 0\n" * many + "stop 0 x\n")), [[-6, many, 1]])

    def test_the_line_that_is_one_too_many(self):
        line = "stop 0 0\n"
        self.assertEqual(ask(take(line * 4096), SIZES), [DONE, [0, 4096, 0, 0, 4096]])
        self.assertEqual(ask(take(line * 4097), SIZES), [[-6, 4096, 2], [0, 0, 0, 0, 0]])
        self.assertEqual(ask(take(line * 5000)), [[-6, 4096, 2]])
        self.assertEqual(ask(take(line * 4096 + "stop 0 x\n")), [[-6, 4096, 1]])
        self.assertEqual(ask(take(line * 4096 + "stop 0 0")), [[-6, 4096, 1]])
        self.assertEqual(ask(take(line * 4096 + "\n")), [[-6, 4096, 1]])
        self.assertEqual(ask(take(line * 4097 + "stop 0 x\n")), [[-6, 4096, 2]])
        self.assertEqual(ask(take(line * 7 + "x\n" + line * 4097)), [[-6, 7, 1]])

    def test_the_check_by_patterns_is_no_rubber_stamp(self):
        self.assertIsNone(fault_of(b""))
        self.assertIsNone(fault_of(b"stop 1 3\n"))
        self.assertEqual(fault_of(b"stop 1 3"), [-6, 0, 1])
        self.assertFalse(helper.is_line(b"move 1 1 3"))
        self.assertFalse(helper.is_line(b"hold 1 3 until 3"))


if __name__ == "__main__":
    unittest.main()
