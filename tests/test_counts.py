"""Promise 2 and the call at: which line counts at a point for a person on a day."""

import itertools
import random
import unittest

from helper import DONE, SIZES, TEXT, Model, ask, at, model_answers, more, take, text_of, told

NONE = [-3]


class CountsTest(unittest.TestCase):
    def counts(self, lines, point=1, day=50, name=""):
        """What at answers when these lines are held; a line number alone, or -3."""
        return ask(take(text_of(lines)), at(point, day, name))[1]


class InForce(CountsTest):
    def test_the_days_at_the_edges(self):
        for line in ("move 1 2 40 until 60", "hold 1 40 until 60", "stop 1 40 until 60", "stop 1 40 until 60 for anna",
                     "move 1 2 40 until 60 open for anna", "hold 1 40 until 60 for anna"):
            for day, answer in ((0, NONE), (38, NONE), (39, NONE), (40, [0]), (41, [0]), (58, [0]), (59, [0]),
                                (60, NONE), (61, NONE), (1000000, NONE)):
                self.assertEqual(self.counts([line], day=day, name="anna"), answer, (line, day))

    def test_one_day_alone(self):
        for day, answer in ((39, NONE), (40, [0]), (41, NONE)):
            self.assertEqual(self.counts(["hold 1 40 until 41"], day=day), answer)

    def test_without_to(self):
        for line in ("move 1 2 40", "stop 1 40", "move 1 2 40 open"):
            for day, answer in ((0, NONE), (39, NONE), (40, [0]), (41, [0]), (999999, [0]), (1000000, [0])):
                self.assertEqual(self.counts([line], day=day), answer, (line, day))

    def test_the_first_and_the_last_day(self):
        self.assertEqual(self.counts(["stop 1 0 until 1"], day=0), [0])
        self.assertEqual(self.counts(["stop 1 0 until 1"], day=1), NONE)
        self.assertEqual(self.counts(["stop 1 1000000"], day=1000000), [0])
        self.assertEqual(self.counts(["stop 1 1000000"], day=999999), NONE)
        self.assertEqual(self.counts(["stop 1 0 until 1000000"], day=999999), [0])
        self.assertEqual(self.counts(["stop 1 0 until 1000000"], day=1000000), NONE)

    def test_what_is_not_in_force_is_not_before_what_is(self):
        for other in ("stop 1 51", "stop 1 49 until 50", "stop 1 51 for anna", "stop 1 0 until 50 for anna"):
            self.assertEqual(self.counts(["stop 1 0", other], name="anna"), [0], other)
            self.assertEqual(self.counts([other, "stop 1 0"], name="anna"), [1], other)


class ForAPerson(CountsTest):
    def check(self, words, name, answer):
        for line in ("move 1 2 0", "hold 1 0 until 90", "stop 1 0"):
            self.assertEqual(self.counts([f"{line} for {words}"], name=name), [0] if answer else NONE, (words, name))

    def test_without_for_it_is_for_anybody(self):
        for name in ("", "!", "Anna", "a b c"):
            self.assertEqual(self.counts(["stop 1 0"], name=name), [0])

    def test_a_name_without_words_is_nobodys(self):
        for name in ("", " ", "\n", "'", "- -"):
            self.check("a", name, False)
            self.check("anna bo", name, False)

    def test_all_words_of_a_name(self):
        self.check("anna", "Anna", True)
        self.check("anna bo", "Anna Bo", True)
        self.check("a b c d e f g h", "a b c d e f g h", True)

    def test_others_before_between_and_behind(self):
        self.check("anna bo", "Frau Anna Bo", True)
        self.check("anna bo", "Anna Maria Bo", True)
        self.check("anna bo", "Anna Bo Carl", True)
        self.check("anna bo", "x Anna y z Bo w", True)
        self.check("anna bo", "Anna\nMaria\nBo", True)
        self.check("a c e", "a b c d e f", True)
        self.check("a", "b c a", True)

    def test_another_order(self):
        self.check("bo anna", "Anna Bo", False)
        self.check("a c b", "a b c", False)
        self.check("a c b", "a b c b", True)
        self.check("b a", "a b a", True)

    def test_a_word_twice(self):
        self.check("anna anna", "Anna", False)
        self.check("anna anna", "Anna Anna", True)
        self.check("anna anna", "Anna Bo Anna", True)
        self.check("anna anna", "Anna Bo", False)
        self.check("anna", "Anna Anna", True)
        self.check("anna bo anna", "Anna Bo", False)
        self.check("anna bo anna", "Anna Anna Bo", False)
        self.check("a a a a a a a a", "a a a a a a a", False)
        self.check("a a a a a a a a", "a a a a a a a a", True)

    def test_one_word_more_than_the_name_has(self):
        self.check("anna bo carl", "Anna Bo", False)
        self.check("carl anna bo", "Anna Bo", False)
        self.check("anna carl bo", "Anna Bo", False)
        self.check("anna bo", "Anna", False)

    def test_words_that_are_parts_of_words(self):
        self.check("ann", "Anna", False)
        self.check("anna", "Ann", False)
        self.check("nna", "Anna", False)
        self.check("an na", "Anna", False)
        self.check("anna", "an na", False)

    def test_the_first_fitting_word_is_not_the_only_one(self):
        # a b a c: the words a, a, c are there, though b stands between.
        self.check("a a c", "a b a c", True)
        self.check("b a c", "a b a c", True)
        self.check("a c b", "a b a c", False)

    def test_long_words_and_names(self):
        self.check("z" * 32, "z" * 32, True)
        self.check("z" * 31, "z" * 32, False)
        self.check("y", " ".join(["x"] * 127 + ["y"]), True)
        self.check("y x", " ".join(["x"] * 127 + ["y"]), False)

    def test_every_short_row_of_words(self):
        for size in range(4):
            for name in itertools.product("ab", repeat=size):
                for many in range(1, 4):
                    for words in itertools.product("ab", repeat=many):
                        chosen = itertools.combinations(name, many)
                        self.assertEqual(self.counts(["stop 1 0 for " + " ".join(words)], name=" ".join(name)),
                                         [0] if words in chosen else NONE)


class WhatCounts(CountsTest):
    def test_nothing(self):
        self.assertEqual(ask(at(1, 50)), [NONE])
        self.assertEqual(self.counts([]), NONE)
        self.assertEqual(self.counts(["stop 2 0", "move 0 1 0", "hold 11 0 until 90", "stop 10 0"]), NONE)
        self.assertEqual(self.counts(["stop 1 51", "stop 1 0 until 50", "stop 1 0 for bo"], name="anna"), NONE)

    def test_with_for_before_without(self):
        self.assertEqual(self.counts(["stop 1 0 for anna", "stop 1 0"], name="anna"), [0])
        self.assertEqual(self.counts(["stop 1 0", "stop 1 0 for anna"], name="anna"), [1])
        self.assertEqual(self.counts(["stop 1 0 for anna", "stop 1 50"], name="anna"), [0])
        self.assertEqual(self.counts(["stop 1 50", "stop 1 0 for anna"], name="anna"), [1])
        self.assertEqual(self.counts(["stop 1 50", "stop 1 0 for anna"], name="bo"), [0])
        self.assertEqual(self.counts(["stop 1 50", "stop 1 0 for anna"]), [0])

    def test_how_many_words_for_has_is_all_the_same(self):
        self.assertEqual(self.counts(["stop 1 0 for anna bo", "stop 1 0 for anna"], name="anna bo"), [1])
        self.assertEqual(self.counts(["stop 1 1 for anna", "stop 1 0 for anna bo"], name="anna bo"), [0])

    def test_the_later_from(self):
        self.assertEqual(self.counts(["stop 1 10", "stop 1 9", "stop 1 8"]), [0])
        self.assertEqual(self.counts(["stop 1 9", "stop 1 10", "stop 1 8"]), [1])
        self.assertEqual(self.counts(["stop 1 8", "stop 1 9", "stop 1 10"]), [2])
        self.assertEqual(self.counts(["stop 1 9 for anna", "stop 1 10 for anna", "stop 1 8 for anna"], name="anna"), [1])
        # Days are numbers, not texts: 9 lies before 10.
        self.assertEqual(self.counts(["stop 1 10", "stop 1 9"]), [0])
        self.assertEqual(self.counts(["stop 1 49 until 51", "stop 1 48"]), [0])

    def test_to_is_all_the_same(self):
        self.assertEqual(self.counts(["stop 1 9", "stop 1 8 until 51"]), [0])
        self.assertEqual(self.counts(["stop 1 9 until 51", "stop 1 8"]), [0])
        self.assertEqual(self.counts(["stop 1 9 until 90", "stop 1 9 until 51"]), [1])
        self.assertEqual(self.counts(["stop 1 9 until 51", "stop 1 9 until 90"]), [1])

    def test_of_the_same_from_the_one_that_stands_later(self):
        for lines in itertools.permutations(("move 1 2 9", "hold 1 9 until 90", "stop 1 9", "move 1 3 9 open")):
            self.assertEqual(self.counts(lines), [3])
            self.assertEqual(self.counts(lines + ("stop 1 8",)), [3])
            self.assertEqual(self.counts(("stop 1 10",) + lines), [0])
        self.assertEqual(self.counts(["stop 1 9 for anna"] * 3 + ["stop 1 9"], name="anna"), [2])
        self.assertEqual(self.counts(["stop 1 9"] * 20), [19])

    def test_lines_for_other_points_are_counted_in_the_number(self):
        self.assertEqual(self.counts(["stop 2 0", "stop 1 0", "stop 3 0"]), [1])
        self.assertEqual(self.counts(["stop 2 0 for anna", "stop 1 0", "stop 2 50"], name="anna"), [1])
        self.assertEqual(self.counts(["stop 4095 0", "stop 0 0"], point=0), [1])
        self.assertEqual(self.counts(["stop 4095 0", "stop 0 0"], point=4095), [0])

    def test_a_move_to_a_point_is_no_line_for_it(self):
        self.assertEqual(self.counts(["move 2 1 0"]), NONE)

    def test_all_short_rows_of_lines(self):
        lines = ("stop 1 40", "stop 1 45", "stop 1 40 for anna", "stop 1 45 for anna bo", "stop 1 51", "stop 2 50")
        for size in range(1, 5):
            for row in itertools.product(lines, repeat=size):
                calls = [take(text_of(row))]
                calls += [at(1, day, name) for day in (39, 40, 45, 50, 51) for name in ("", "anna", "anna x bo")]
                self.assertEqual(ask(*calls), model_answers(*calls), row)


class JustOneOrNone(unittest.TestCase):
    """Promise 2, on drawn lines: told once more as what no other line stands before."""

    def before(self, one, other):
        return ((one.words is not None, one.first, one.number) > (other.words is not None, other.first, other.number))

    def test_drawn_lines(self):
        draw = random.Random(2)
        answered = 0
        for case in range(400):
            rows = []
            for line in range(draw.randrange(12)):
                first = draw.randrange(6)
                until = draw.choice(("", f" until {draw.randrange(first + 1, 8)}"))
                words = draw.choice(("", "", " for a", " for b", " for a b", " for b a"))
                rows.append(f"stop {draw.randrange(2)} {first}{until}{words}\n")
            model = Model()
            model.hold("".join(rows).encode())
            letters = list(itertools.product((0, 1), range(9), ("", "a", "b", "a b", "b x a")))
            given = ask(take("".join(rows)), *[at(*letter) for letter in letters])[1:]
            for (point, day, name), answer in zip(letters, given):
                able = [line for line in model.lines.get(point, [])
                        if line.first <= day < line.end and line.is_for(name.split())]
                first = [line for line in able if all(self.before(line, other) for other in able if other != line)]
                self.assertEqual(answer, [line.number for line in first] or NONE)
                self.assertLessEqual(len(first), 1)
                answered += answer != NONE
        self.assertGreater(answered, 5000)


class TheHeldLines(unittest.TestCase):
    A, B = "stop 1 3\n", "stop 1 3 for anna\n"

    def test_of_a_new_object(self):
        self.assertEqual(ask(at(1, 5), at(0, 0, "anna"), TEXT), [NONE, NONE, [0]])

    def test_behind_take_and_more(self):
        self.assertEqual(ask(take(self.A), at(1, 5, "anna"), more(self.B), at(1, 5, "anna"), at(1, 5), more(self.A),
                             at(1, 5, "anna"), at(1, 5), take(self.B), at(1, 5, "anna"), at(1, 5), take(""),
                             at(1, 5, "anna")),
                         [DONE, [0], DONE, [1], [0], DONE, [1], [2], DONE, [0], NONE, DONE, NONE])

    def test_behind_a_refused_take_or_more(self):
        for refused in (take("x\n"), more("x\n"), take(self.B + "x\n"), more(self.B + "x\n"), more(self.B[:-1])):
            answered = ask(take(self.A), refused, at(1, 5, "anna"), TEXT)
            self.assertEqual(answered[1][0], -6)
            self.assertEqual(answered[2:], [[0], told(self.A)])
            self.assertEqual(ask(refused, at(1, 5, "anna"))[1], NONE)

    def test_it_changes_nothing(self):
        self.assertEqual(ask(take(self.A + self.B), at(1, 5, "anna"), at(1, 2), at(5000, 2), at(1, 5, "anna"), TEXT,
                             SIZES),
                         [DONE, [1], NONE, [-1], [1], told(self.A + self.B), [0, 2, 0, 0, 2]])


if __name__ == "__main__":
    unittest.main()
