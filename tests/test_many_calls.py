"""All calls in one list: drawn ones, and lists as long as they may be."""

import random
import unittest

from helper import SIZES, TABLE, TEXT, ask, at, follow, into, model_answers, more, parted, take, text_of, where
from mailmoves.desk import answers

KINDS = (at, follow, where)


def sum_of(calls):
    """The sum that the document allows up to 1,000,000; lengths ahead of rows are not counted in it."""
    numbers = sum(len(call) - (call[0] not in (2, 3, 7)) for call in calls)
    return len(calls) * (numbers + 1000) + 4200 * sum(call[0] == 7 for call in calls)


def as_many_as_may_be(first, following):
    """The first call with as many of the following ones, over and over, as a list of calls may have."""
    calls = [first]
    while len(calls) < 400:
        longer = calls + [following[(len(calls) - 1) % len(following)]]
        if sum_of(longer) > 1000000 or sum(map(len, longer)) > 31000:
            break
        calls = longer
    return calls


class Long(unittest.TestCase):
    def check(self, calls):
        self.assertLessEqual(sum_of(calls), 1000000)
        self.assertLessEqual(len(calls), 400)
        numbers = [number for call in calls for number in call]
        self.assertLessEqual(len(numbers), 31000)
        kept = list(numbers)
        first = answers(numbers)
        self.assertEqual(numbers, kept)
        self.assertEqual(answers(numbers), first)
        self.assertEqual(numbers, kept)
        return parted(first)

    def check_by_model(self, calls):
        self.assertEqual(self.check(calls), model_answers(*calls))

    def test_into_over_a_long_chain(self):
        moves = [f"move {point} {point + 1} 0" for point in range(1800)]
        calls = as_many_as_may_be(take(text_of(moves)), [into(1800, 5), into(900, 5), into(4000, 5)])
        self.assertGreater(len(calls), 25)
        given = self.check(calls)
        row = [[33] + list(range(1768, 1801)), [0], [1, 4000]]
        self.assertEqual(given[1:], (row * len(calls))[:len(calls) - 1])

    def test_into_a_point_that_thousands_go_to(self):
        moves = [f"move {point} 7 0" for point in range(2100) if point != 7]
        calls = as_many_as_may_be(take(text_of(moves)), [into(7, 5)])
        given = self.check(calls)
        self.assertEqual(given[1:], [[2100] + list(range(2100))] * (len(calls) - 1))

    def test_into_over_thousands_of_holds_at_one_point(self):
        lines = [f"hold 1 {day} until {day + 1}" for day in range(1200)]
        lines += [f"hold {point} 0 until {point * 20}\nmove {point} 1 {point * 20}" for point in range(2, 60)]
        calls = as_many_as_may_be(take(text_of(lines)), [into(1, 0), into(1, 1150), into(1, 3)])
        self.assertGreater(len(calls), 25)
        given = self.check(calls)
        self.assertEqual(given[1:4], model_answers(*calls[:4])[1:])

    def test_many_calls_of_into_over_few_lines(self):
        calls = as_many_as_may_be(take("move 1 2 0\nhold 2 5 until 9\nstop 3 0\n"),
                                  [into(point, day) for point in range(4) for day in range(4)])
        self.assertGreater(len(calls), 150)
        given = self.check(calls)
        self.assertEqual(given[:17], model_answers(*calls[:17]))
        self.assertEqual(given[17:33], given[1:17])

    def test_follow_and_where_over_thousands_of_lines(self):
        moves = [f"move {point} {point + 1} 0 open" for point in range(600)]
        moves += [f"move {point} {point + 1} 5 for a" for point in range(600)]
        letters = [kind(point, 9, *extra) for point in (0, 300, 568, 569, 590, 600)
                   for kind, extra in ((follow, (1, "x a")), (follow, (0, "")), (where, ("",)), (at, ("a",)))]
        self.check_by_model(as_many_as_may_be(take(text_of(moves)), letters))

    def test_follow_over_thousands_of_lines_of_one_point(self):
        lines = [f"hold 1 {day} until {day + 1} for a b" for day in range(900)]
        letters = [follow(1, day, day % 2, name) for day in (0, 100, 867, 868, 869, 900) for name in ("a b", "b a")]
        calls = as_many_as_may_be(take(text_of(lines)), letters)
        self.assertGreater(len(calls), 25)
        self.check_by_model(calls)

    def test_long_names_and_many_words(self):
        lines = [f"stop {point} 0 for a a a a a a a b" for point in range(300)]
        names = ["a " * 127 + "b", "a " * 128, "a\n" * 8, "a" * 512, "'" * 512]
        self.check_by_model(as_many_as_may_be(take(text_of(lines)), [at(point, 5, name) for point in (0, 299, 300)
                                                                      for name in names]))

    def test_the_longest_names(self):
        calls = [kind(1, 5, *([1] if kind == follow else []), [97] * 2000) for kind in KINDS] * 5
        self.assertEqual(self.check(calls), [[-2]] * 15)

    def test_four_hundred_calls(self):
        calls = as_many_as_may_be(take("move 1 2 0\nhold 2 5 until 9 for a\n"),
                                  [at(1, 5), follow(2, 5, 1, "a"), where(1, 5), at(3, 5), SIZES])
        self.assertEqual(len(calls), 400)
        self.check_by_model(calls)

    def test_the_longest_text_and_letters_behind_it(self):
        lines = ["stop 1 0"] * 3430
        calls = as_many_as_may_be(take(text_of(lines)), [at(1, 5), follow(1, 5), where(1, 5), into(1, 5), at(2, 5)])
        self.assertGreater(len(calls), 10)
        given = self.check(calls)
        self.assertEqual(given[1:6], [[3429], [0, 1, 1, 5, 0, 3429], [-3], [0], [-3]])


class Drawn(unittest.TestCase):
    """Drawn cases of all calls against the model; few points, days and words, so that lines meet."""

    def line(self, draw):
        point, target = draw.sample(range(5), 2)
        first = draw.randrange(12)
        end = draw.choice(("", "", f" until {first + draw.choice((0, 1, 2, 3, 4, 5) + (6, 9) * 10)}"))
        words = draw.choice(("", "", " for a", " for b", " for a b", " for ss", " for a a", " for 1"))
        kind = draw.choice(("move", "move", "move", "move", "hold", "stop"))
        if kind == "move":
            return f"move {point} {target} {first}{end}{draw.choice(('', ' open', ' open'))}{words}"
        if kind == "hold":
            return f"hold {point} {first} until {first + draw.randrange(1, 6)}{words}"
        return f"stop {point} {first}{end}{words}"

    def text(self, draw):
        return text_of([self.line(draw) for line in range(draw.choice((0, 3, 8, 15)))])

    def name(self, draw):
        if draw.random() < 0.7:
            return draw.choice(("", "a", "B", "A b", "b-a", "\xe0 x \u0253\nb", "\xdf", "s's", "a\u0301a", "a a", "\xb9"))
        pool = draw.choice((list(TABLE), [97, 98, 32, 10, 39], [97, 10], range(1, 1114112), range(-2, 60)))
        return [draw.choice(pool) for character in range(draw.choice((1, 3, 10, 40, 300, 512, 513)))]

    def call(self, draw):
        kind = draw.choice((take, more, more, SIZES, TEXT, into, at, at, follow, follow, follow, follow, where, where))
        if kind in (take, more):
            return kind(self.text(draw))
        if kind in (TEXT, SIZES):
            return kind
        point = draw.choice((0, 1, 2, 3, 4, 4, 3, 2, 1, 0, 5, 4095, 4096))
        day = draw.choice(list(range(18)) * 2 + [1000000, 1000001])
        if kind == into:
            return into(point, day)
        if kind == follow:
            return follow(point, day, draw.randrange(2), self.name(draw))
        return kind(point, day, self.name(draw))

    def test_many_drawn_calls(self):
        draw = random.Random(7)
        firsts = {}
        for case in range(900):
            calls = [take(self.text(draw))] + [self.call(draw) for call in range(draw.randrange(1, 20))]
            given = ask(*calls)
            self.assertEqual(given, model_answers(*calls), calls)
            for call, answer in zip(calls, given):
                told_first = answer[:2] if call[0] == 5 else answer[:1]
                firsts[(call[0], *told_first)] = firsts.get((call[0], *told_first), 0) + 1
        for kind in (4, 6):
            for refusal in (-1, -2, -3, -6):
                self.assertGreater(firsts[(kind, refusal)], 10)
        for how in (0, 1, 2, 4):
            self.assertGreater(firsts[(5, 0, how)], 10)


if __name__ == "__main__":
    unittest.main()
