"""A letter's refusals, in the order in which they stand."""

import itertools
import unittest

from helper import TEXT, ask, at, follow, into, name_refusal, take, told, where

# Counts for anybody at every point that is asked, so that a letter which is not refused is answered.
LINES = "stop 0 0\nstop 4095 0\nstop 9 1000000\n"
A = ord("a")
BLANK = [32]
FEED = [10]
NO_WIDE = (0, -1, -2147483648, 55296, 55297, 57343, 1114112, 2147483647)
WIDE = (1, 10, 55295, 57344, 1114111)


class LetterTest(unittest.TestCase):
    def check(self, point, day, name, refusal):
        """A letter with these is refused so by all calls that take one, and the object is as it was."""
        calls = [at(point, day, name), follow(point, day, 0, name), follow(point, day, 1, name),
                 where(point, day, name)]
        answered = ask(take(LINES), *calls, TEXT)
        self.assertEqual(answered[-1], told(LINES))
        if refusal:
            self.assertEqual(answered[1:-1], [refusal] * 4)
        else:
            self.assertEqual([answered[1][0] >= 0, answered[2][:2], answered[3][:2], answered[4]],
                             [True, [0, 1], [0, 1], [-3]])

    def right(self, name):
        self.assertIsNone(name_refusal(name))
        self.check(0, 5, name, None)

    def wrong(self, name, refusal):
        self.assertEqual(name_refusal(name), refusal)
        self.check(0, 5, name, refusal)


class Characters(LetterTest):
    def test_how_many_numbers(self):
        for size in (0, 1, 2, 511, 512):
            self.right([33] * size)
        for size in (513, 514, 1024, 2000):
            self.wrong([33] * size, [-2])

    def test_too_many_numbers_that_are_no_wide_characters(self):
        for number in NO_WIDE:
            for place in (0, 256, 511, 512):
                name = [33] * 513
                name[place] = number
                self.wrong(name, [-2])
            self.wrong([number] * 513, [-2])
            self.wrong([number] * 512, [-6, 0])

    def test_numbers_that_are_no_wide_characters(self):
        for number in NO_WIDE:
            self.wrong([number], [-6, 0])
            for place in (0, 1, 2, 100, 510, 511):
                name = [33] * 512
                name[place] = number
                self.wrong(name, [-6, place])

    def test_the_last_and_first_wide_characters(self):
        for number in WIDE:
            self.right([number])
            self.right([33] * 511 + [number])

    def test_the_first_of_more(self):
        for first, later in itertools.product(NO_WIDE, repeat=2):
            self.wrong([33, 33, first, 33, later], [-6, 2])
            self.wrong([1, first, later], [-6, 1])

    def test_a_number_that_is_none_behind_too_many_words(self):
        for number in NO_WIDE:
            self.wrong([A] * 33 + [number], [-6, 33])
            self.wrong([A, 32] * 129 + [number], [-6, 258])
            self.wrong([A, 10] * 9 + [number], [-6, 18])


class Words(LetterTest):
    def test_how_many_lines(self):
        for size in (7, 8):
            self.right([A, 10] * size)
            self.right([A, 10] * (size - 1) + [A])
            self.right([10, 10, A, 10, 33, 10] * size + [10, 39, 10])
        for size in (9, 10, 100):
            self.wrong([A, 10] * size, [-2])
            self.wrong([A, 10] * (size - 1) + [A], [-2])
        self.right([10] * 512)
        self.right([33, 10] * 256)

    def test_how_many_words(self):
        for size in (127, 128):
            self.right([A, 32] * size)
            self.right([A, 32] * (size - 1) + [A])
            self.right(([A, 32] * (size // 8) + FEED) * 8)
        for size in (129, 130, 200, 256):
            self.wrong([A, 32] * size, [-2])
            self.wrong([A, 32] * (size - 1) + [A], [-2])
        self.wrong([A, 10] + [A, 32] * 128, [-2])
        self.wrong(([A, 32] * 16 + FEED) * 7 + [A, 32] * 17, [-2])

    def test_how_many_letters(self):
        for size in (31, 32):
            self.right([A] * size)
            self.right([33] + [A] * size + [33])
            self.right(([A] * size + BLANK) * 8)
            self.right([A, 39] * size)
        for size in (33, 34, 512):
            self.wrong([A] * size, [-2])
        self.wrong([A] * 32 + [39, A], [-2])
        self.wrong([A, 39] * 33, [-2])
        self.right([A] * 32 + [33, A])
        self.right([A] * 32 + [10, A])

    def test_a_long_word_in_each_place(self):
        for place in range(8):
            words = [[A] * 32 + BLANK for word in range(8)]
            words[place] = [A] * 33 + FEED
            self.wrong(sum(words, []), [-2])

    def test_a_character_that_stands_for_more_letters_at_the_edge(self):
        for character, letters in ((0xC6, 2), (0xDF, 2), (0x2116, 2), (0xFB03, 3), (0xFB04, 3)):
            self.right([A] * (32 - letters) + [character])
            self.right([character] + [A] * (32 - letters))
            for crossing in range(1, letters + 1):
                self.wrong([A] * (32 - letters + crossing) + [character], [-2])
            self.right([character] * (32 // letters))
            self.wrong([character] * (32 // letters + 1), [-2])

    def test_no_numbers_and_no_words(self):
        for name in ([], [33], [10], [39], [10, 10], [0x300] * 512, [32, 39, 10, 0xD7]):
            self.right(name)


class PointsAndDays(LetterTest):
    def test_points(self):
        for point in (0, 4095):
            self.check(point, 5, [A], None)
        for point in (4096, 4097, 65536, 4294967295):
            self.check(point, 5, [A], [-1])
            self.check(point, 0, [], [-1])

    def test_days(self):
        for point, day in ((0, 0), (0, 999999), (0, 1000000), (9, 1000000)):
            self.check(point, day, [A], None)
        for day in (1000001, 1000002, 4294967295):
            for point in (0, 9, 4095):
                self.check(point, day, [A], [-1])
        self.check(4096, 1000001, [], [-1])

    def test_of_a_point_without_lines(self):
        # Its letters are not refused but answered, or refused for another reason.
        self.assertEqual(ask(at(4095, 1000000), follow(4095, 1000000), where(4095, 1000000)),
                         [[-3], [0, 0, 4095, 1000000, 0], [4095]])
        self.assertEqual(ask(at(4096, 0), follow(4096, 0), where(4096, 0), at(0, 1000001), follow(0, 1000001),
                             where(0, 1000001)), [[-1]] * 6)

    def test_of_into(self):
        for point, day in ((4096, 0), (0, 1000001), (4294967295, 4294967295), (4294967295, 5), (5, 4294967295)):
            self.assertEqual(ask(take(LINES), into(point, day), TEXT)[1:], [[-1], told(LINES)])
            self.assertEqual(ask(into(point, day)), [[-1]])
        self.assertEqual(ask(into(4095, 1000000), into(0, 0)), [[1, 4095], [1, 0]])


class TheirOrder(LetterTest):
    def test_several_at_once(self):
        long_name, no_wide, many = [33] * 513, [33, 0], [A] * 33
        for point, day in ((4096, 5), (0, 1000001), (4096, 1000001), (0, 5)):
            self.check(point, day, long_name, [-2])
            self.check(point, day, long_name + no_wide, [-2])
            self.check(point, day, many + long_name, [-2])
            self.check(point, day, no_wide, [-6, 1])
            self.check(point, day, many + no_wide, [-6, 34])
            self.check(point, day, no_wide + many, [-6, 1])
            self.check(point, day, many, [-2])
            self.check(point, day, [A, 32] * 129, [-2])
            self.check(point, day, [A, 10] * 9, [-2])

    def test_a_refusal_comes_before_none_counts(self):
        # On day 5 nothing counts at point 1.
        for name, refusal in (([33] * 513, [-2]), ([0], [-6, 0]), ([A] * 33, [-2])):
            self.check(1, 5, name, refusal)
        self.check(4096, 5, [A], [-1])


if __name__ == "__main__":
    unittest.main()
