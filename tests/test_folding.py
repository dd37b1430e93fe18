"""Folding: which characters stand for letters, vanish, end a line or part words."""

import unicodedata
import unittest

from helper import TABLE, ask, at, edges_of, folding_ranges, take, vanishing_ranges
from mailmoves.folding import is_wide, letters_of, lines_of_words, vanishes

STANDS_FOR = sorted({letters for letters in TABLE.values() if letters.strip()})
# At point 0 each word alone, at 1 each word between x and y, at 2 a word parted there, at 3 anybody.
LINES = ([f"stop 0 0 for {word}\n" for word in STANDS_FOR] + ["stop 1 0 for xy\n"]
         + [f"stop 1 0 for x{word}y\n" for word in STANDS_FOR] + ["stop 2 0 for x y\n", "stop 3 0\n"])
NONE = [-3]


def line_number(line):
    return [LINES.index(line)] if line in LINES else NONE


def probes(character):
    """What tells of a character what it is: alone, between x and y, and as the end of each of nine words."""
    within = [ord("x"), character, ord("y")]
    return [at(0, 0, [character]), at(1, 0, within), at(2, 0, within), at(3, 0, [ord("x"), character, 32] * 9)]


def expected(character):
    letters = TABLE.get(character, " ")
    if letters.strip():
        return [line_number(f"stop 0 0 for {letters}\n"), line_number(f"stop 1 0 for x{letters}y\n"), NONE,
                line_number("stop 3 0\n")]
    if letters == "":
        return [NONE, line_number("stop 1 0 for xy\n"), NONE, line_number("stop 3 0\n")]
    return [NONE, NONE, line_number("stop 2 0 for x y\n"), [-2] if letters == "\n" else line_number("stop 3 0\n")]


class Characters(unittest.TestCase):
    def check(self, characters):
        for character in characters:
            with self.subTest(character=f"{character:X}"):
                calls = probes(character)
                self.assertEqual(ask(take("".join(LINES)), *calls)[1:], expected(character))

    def test_the_edges_of_each_row(self):
        self.check(edges_of(folding_ranges()))

    def test_the_edges_of_what_vanishes(self):
        self.check(edges_of(vanishing_ranges()))

    def test_each_vanishing_character(self):
        self.check([character for first, last in vanishing_ranges() for character in range(first, last + 1)])

    def test_each_character_up_to_two_bytes_of_latin(self):
        self.check(range(1, 0x250))

    def test_line_feed_and_its_like(self):
        # Only 10 ends a line; the others that do elsewhere part words.
        self.check([9, 10, 11, 12, 13, 28, 29, 30, 0x85, 0x2028, 0x2029])

    def test_the_last_characters(self):
        self.check([0xD7FF, 0xE000, 0xFFFE, 0xFFFF, 0x10000, 0x10FFFE, 0x10FFFF])

    def test_rows_named_one_by_one(self):
        self.assertEqual([letters_of(character) for character in (0xD7, 0xF7)], ["", ""])
        self.assertEqual([letters_of(character) for character in (0xDF, 0xFF)], ["ss", "y"])
        self.assertEqual([letters_of(character) for character in range(0xFB00, 0xFB07)],
                         ["ff", "fi", "fl", "ffi", "ffl", "st", "st"])
        self.assertEqual([letters_of(character) for character in (0xFAFF, 0xFB07)], ["", ""])
        for character in range(0xE0, 0xFF):
            if character != 0xF7:
                self.assertEqual(letters_of(character), letters_of(character - 0x20))
                self.assertTrue(letters_of(character))

    def test_every_character_of_two_bytes_and_some_above(self):
        # Those above would be found if only a part of a number were looked at.
        above = [character + shift for shift in (0x10000, 0x20000, 0x100000) for character in TABLE]
        for character in list(range(1, 0x10000)) + above + list(range(0x10000, 0x110000, 997)):
            if is_wide(character):
                letters = TABLE.get(character, " ")
                self.assertEqual((letters_of(character), vanishes(character)), (letters.strip(), letters == ""),
                                 f"{character:X}")

    def test_the_table_by_the_characters_own_names(self):
        for character, letters in TABLE.items():
            words = unicodedata.name(chr(character), "").split()
            if words[:1] == ["LATIN"] and "LETTER" in words and len(words[words.index("LETTER") + 1:][0]) == 1:
                self.assertEqual(letters, words[words.index("LETTER") + 1].lower(), f"{character:X}")
            digit = unicodedata.digit(chr(character), None)
            if digit is not None:
                self.assertEqual(letters, str(digit), f"{character:X}")


class Words(unittest.TestCase):
    def words(self, name):
        return lines_of_words([ord(sign) for sign in name])

    def counts(self, words, name):
        """Whether a line for these words alone is for the person of this name, asked by the call at."""
        answer = ask(take(f"stop 7 0 for {words}\n"), at(7, 0, name))[1]
        self.assertIn(answer, ([0], NONE))
        return answer == [0]

    def test_a_character_that_stands_for_more_letters(self):
        self.assertTrue(self.counts("strasse", "Stra\xdfe"))
        self.assertTrue(self.counts("aegir", "\xc6gir"))
        self.assertTrue(self.counts("thor", "\xde\xf3r"))
        self.assertTrue(self.counts("office", "o\ufb03ce"))
        self.assertTrue(self.counts("no7", "\u21167"))
        self.assertFalse(self.counts("a", "\xc6"))
        self.assertFalse(self.counts("e", "\xc6"))

    def test_vanishing_ones_in_each_place_of_a_word(self):
        for sign in "'`\xad\xb4\u02bc\u0300\u036f\u200b\u200d\u2018\u2019\u2060\ufeff":
            for name in (sign + "oneil", "o" + sign + "neil", "oneil" + sign, sign * 3 + "on" + sign * 2 + "eil" + sign,
                         f"{sign} oneil {sign}", f"{sign}\n{sign}oneil{sign}\n{sign}"):
                self.assertTrue(self.counts("oneil", name), ascii(name))
                self.assertFalse(self.counts("o", name), ascii(name))
            self.assertEqual(self.words(f"a {sign} b"), [["a", "b"]])
            self.assertEqual(self.words(sign), [])

    def test_a_vanishing_one_beside_one_that_parts(self):
        self.assertEqual(self.words("a'-'b"), [["a", "b"]])
        self.assertEqual(self.words("a'\n'b"), [["a"], ["b"]])
        self.assertEqual(self.words("a'-"), [["a"]])

    def test_words_parted_by_several_characters(self):
        for between in (" ", "  ", " - ", ".", ", ", "\t\r", "\xd7\xf7", "\u3042\U0001f600", "\x01\x7f"):
            self.assertTrue(self.counts("anna bo", f"Anna{between}Bo"), ascii(between))
            self.assertFalse(self.counts("annabo", f"Anna{between}Bo"), ascii(between))
            self.assertEqual(self.words(f"{between}Anna{between}Bo{between}"), [["anna", "bo"]])

    def test_words_of_more_lines_are_one_row(self):
        self.assertTrue(self.counts("anna bo", "Anna\nBo"))
        self.assertTrue(self.counts("anna bo", "\n\nAnna\n\n\nBo\n\n"))
        self.assertFalse(self.counts("annabo", "Anna\nBo"))
        self.assertFalse(self.counts("bo anna", "Anna\nBo"))

    def test_lines_without_words(self):
        self.assertEqual(self.words(""), [])
        self.assertEqual(self.words("\n\n - \n'\n"), [])
        self.assertEqual(self.words("\na b\n\n - \nc\n'\n"), [["a", "b"], ["c"]])

    def test_small_and_great_letters_and_digits(self):
        self.assertEqual(self.words("aZ09 ANNA \uff21\uff5a\uff10 \u2074\u2089\xb9"), [["az09", "anna", "az0", "491"]])

    def test_what_is_folded_is_not_changed(self):
        name = [97, 39, 98, 10, 99]
        self.assertEqual(lines_of_words(name), [["ab"], ["c"]])
        self.assertEqual(name, [97, 39, 98, 10, 99])


if __name__ == "__main__":
    unittest.main()
