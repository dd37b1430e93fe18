"""Promises 3 and 4 and the call follow: the way of a letter."""

import random
import unittest

from helper import DONE, SIZES, TEXT, Model, ask, follow, model_answers, more, take, text_of, told


def chain(steps, first=0):
    """Moves over so many steps, from point 100 on."""
    return [f"move {100 + step} {101 + step} {first}" for step in range(steps)]


def holds(steps, point=100):
    """Holds over so many steps, from day 0 on."""
    return [f"hold {point} {day} until {day + 1}" for day in range(steps)]


class FollowTest(unittest.TestCase):
    def check(self, lines, letter, answer):
        """letter: point, day, may, name; answer: all behind the first 0."""
        calls = (take(text_of(lines)), follow(*letter))
        self.assertEqual(ask(*calls)[1], [0] + answer)
        self.assertEqual(model_answers(*calls)[1], [0] + answer)


class HandedOver(FollowTest):
    def test_at_once(self):
        for may in (0, 1):
            self.assertEqual(ask(follow(7, 9, may)), [[0, 0, 7, 9, 0]])
            self.check([], (0, 0, may, "anna"), [0, 0, 0, 0])
            self.check(["move 2 1 0", "stop 1 10", "stop 1 0 until 9", "stop 1 0 for bo"], (1, 9, may, "anna"),
                       [0, 1, 9, 0])

    def test_behind_moves(self):
        self.check(["move 1 2 0"], (1, 9, 1), [0, 2, 9, 1, 0])
        self.check(["stop 5 0", "move 2 3 0", "move 1 2 0"], (1, 9, 1), [0, 3, 9, 2, 2, 1])
        self.check(chain(5), (100, 9, 1), [0, 105, 9, 5, 0, 1, 2, 3, 4])
        self.check(chain(5), (103, 9, 1), [0, 105, 9, 2, 3, 4])

    def test_behind_holds(self):
        for may in (0, 1):
            self.check(["hold 1 5 until 20"], (1, 9, may), [0, 1, 20, 1, 0])
            self.check(["hold 1 5 until 20", "hold 1 20 until 1000000"], (1, 9, may), [0, 1, 1000000, 2, 0, 1])
            self.check(["hold 1 5 until 6"], (1, 5, may), [0, 1, 6, 1, 0])
            self.check(["hold 1 5 until 6"], (1, 6, may), [0, 1, 6, 0])

    def test_behind_moves_and_holds(self):
        lines = ["move 1 2 0", "hold 2 0 until 30", "move 2 3 30", "move 3 9 0 until 30", "hold 3 29 until 31"]
        self.check(lines, (1, 9, 1), [0, 3, 31, 4, 0, 1, 2, 4])
        self.check(lines, (3, 9, 1), [0, 9, 9, 1, 3])

    def test_a_move_whose_time_is_over_behind_a_hold(self):
        self.check(["move 1 2 0 until 20", "hold 1 5 until 20"], (1, 9, 1), [0, 1, 20, 1, 1])
        self.check(["move 1 2 0 until 21", "hold 1 5 until 20"], (1, 9, 1), [0, 2, 20, 2, 1, 0])

    def test_the_same_point_on_another_day_is_no_way_round(self):
        lines = ["move 1 2 0 until 20", "hold 2 0 until 20", "move 2 1 20"]
        self.check(lines, (1, 9, 1), [0, 1, 20, 3, 0, 1, 2])

    def test_for_a_person(self):
        lines = ["move 1 2 0", "move 1 3 0 for anna", "move 3 4 0 for bo", "hold 3 0 until 30 for anna"]
        self.check(lines, (1, 9, 1, "Anna"), [0, 3, 30, 2, 1, 3])
        self.check(lines, (1, 9, 1, "Anna Bo"), [0, 4, 30, 3, 1, 3, 2])
        self.check(lines, (1, 9, 1, "Bo"), [0, 2, 9, 1, 0])
        self.check(lines, (1, 9, 1, ""), [0, 2, 9, 1, 0])


class MayNot(FollowTest):
    def test_a_move_that_it_may_not_take(self):
        self.check(["stop 5 0", "move 1 2 0"], (1, 9, 0), [4, 1, 9, 0, 1])
        self.check(["stop 5 0", "move 1 2 0 open"], (1, 9, 0), [4, 1, 9, 0, 1])
        self.check(["stop 5 0", "move 1 2 0"], (1, 9, 1), [0, 2, 9, 1, 1])

    def test_a_hold_is_a_step(self):
        self.check(["move 1 2 0", "hold 1 5 until 20"], (1, 9, 0), [4, 1, 20, 1, 1, 0])
        self.check(["hold 1 5 until 20", "stop 1 20"], (1, 9, 0), [1, 1, 20, 1, 0, 1])
        self.check(["hold 1 5 until 20"], (1, 9, 0), [0, 1, 20, 1, 0])

    def test_a_stop_all_the_same(self):
        self.check(["stop 1 0"], (1, 9, 0), [1, 1, 9, 0, 0])

    def test_before_a_way_round(self):
        self.check(["move 1 2 0", "move 2 1 0"], (1, 9, 0), [4, 1, 9, 0, 0])
        self.check(["move 1 2 0", "move 2 1 0", "hold 1 0 until 20"], (1, 9, 0), [4, 1, 20, 1, 2, 0])

    def test_before_too_many_steps(self):
        self.check(holds(32) + ["move 100 1 32"], (100, 0, 0), [4, 100, 32, 32] + list(range(33)))
        self.check(holds(31) + ["move 100 1 31"], (100, 0, 0), [4, 100, 31, 31] + list(range(32)))
        # A hold of a later from counts before the move, and would be a step too many.
        self.check(["move 100 1 0"] + holds(33), (100, 0, 0), [3, 100, 32, 32] + list(range(1, 34)))


class Stopped(FollowTest):
    def test_at_once(self):
        for may in (0, 1):
            self.check(["move 1 2 0", "stop 1 0"], (1, 9, may), [1, 1, 9, 0, 1])

    def test_behind_steps(self):
        self.check(["move 1 2 0", "stop 2 0"], (1, 9, 1), [1, 2, 9, 1, 0, 1])
        self.check(["hold 1 0 until 20", "move 1 2 20", "stop 2 20 until 21"], (1, 9, 1), [1, 2, 20, 2, 0, 1, 2])

    def test_behind_the_last_step(self):
        self.check(chain(32) + ["stop 132 0"], (100, 9, 1), [1, 132, 9, 32] + list(range(33)))
        self.check(chain(31) + ["stop 131 0"], (100, 9, 1), [1, 131, 9, 31] + list(range(32)))
        for may in (0, 1):
            self.check(holds(32) + ["stop 100 32"], (100, 0, may), [1, 100, 32, 32] + list(range(33)))

    def test_a_stop_ahead_of_a_way_round(self):
        self.check(["move 1 2 0", "move 2 1 0", "stop 1 0 for anna"], (2, 9, 1, "anna"), [1, 1, 9, 1, 1, 2])


class WaysRound(FollowTest):
    def test_by_moves(self):
        self.check(["move 1 2 0", "move 2 1 0"], (1, 9, 1), [2, 1, 9, 2, 0, 1, 0])
        self.check(["move 1 2 0", "move 2 3 0", "move 3 1 0"], (2, 9, 1), [2, 2, 9, 3, 1, 2, 0, 1])

    def test_with_a_way_that_leads_to_it(self):
        self.check(["move 1 2 0", "move 2 3 0", "move 3 4 0", "move 4 3 0"], (1, 9, 1),
                   [2, 3, 9, 4, 0, 1, 2, 3, 2])

    def test_behind_a_hold(self):
        self.check(["move 1 2 0", "move 2 1 0", "hold 1 0 until 20"], (1, 9, 1), [2, 1, 20, 3, 2, 0, 1, 0])

    def test_a_hold_in_it_that_comes_back_on_another_day(self):
        # Round the first time on day 9, held till 20, round once more, and only then where it has been.
        lines = ["move 1 2 0", "move 2 3 0", "hold 2 5 until 20", "move 3 1 0"]
        self.check(lines, (1, 9, 1), [2, 2, 20, 5, 0, 2, 1, 3, 0, 1])

    def test_holds_again_and_again_are_no_way_round(self):
        self.check(holds(20), (100, 0, 1), [0, 100, 20, 20] + list(range(20)))

    def test_round_at_the_edge_of_the_steps(self):
        for size in (31, 32):
            lines = chain(size - 1) + [f"move {99 + size} 100 0"]
            self.check(lines, (100, 9, 1), [2, 100, 9, size] + list(range(size)) + [0])
        # Round only behind 33 steps: it went too far before.
        lines = chain(32) + ["move 132 100 0"]
        self.check(lines, (100, 9, 1), [3, 132, 9, 32] + list(range(33)))

    def test_round_before_too_many_steps(self):
        # Behind 32 steps it is where it has been: 2, though a step would be too many, too.
        lines = chain(31) + ["move 131 110 0"]
        self.check(lines, (100, 9, 1), [2, 110, 9, 32] + list(range(32)) + [10])
        lines = holds(10) + chain(21, 10) + ["move 121 120 10"]
        self.check(lines, (100, 0, 1), [2, 120, 10, 32] + list(range(32)) + [30])


class TooManySteps(FollowTest):
    def test_moves(self):
        for size in (30, 31, 32):
            self.check(chain(size), (100, 9, 1), [0, 100 + size, 9, size] + list(range(size)))
        for size in (33, 34, 60):
            self.check(chain(size), (100, 9, 1), [3, 132, 9, 32] + list(range(33)))

    def test_holds(self):
        for may in (0, 1):
            for size in (30, 31, 32):
                self.check(holds(size), (100, 0, may), [0, 100, size, size] + list(range(size)))
            for size in (33, 34, 60):
                self.check(holds(size), (100, 0, may), [3, 100, 32, 32] + list(range(33)))

    def test_both(self):
        for held in (1, 16, 31):
            for size in (31, 32, 33):
                lines = holds(held) + chain(size - held, held)
                if size <= 32:
                    answer = [0, 100 + size - held, held, size] + list(range(size))
                else:
                    answer = [3, 132 - held, held, 32] + list(range(33))
                self.check(lines, (100, 0, 1), answer)

    def test_a_hold_behind_the_last_step(self):
        self.check(chain(32) + ["hold 132 0 until 20"], (100, 9, 1), [3, 132, 9, 32] + list(range(33)))
        self.check(chain(31) + ["hold 131 0 until 20"], (100, 9, 1), [0, 131, 20, 32] + list(range(32)))

    def test_days_that_are_not_counted_one_by_one(self):
        self.check(["hold 1 0 until 1000000", "stop 1 1000000"], (1, 0, 0), [1, 1, 1000000, 1, 0, 1])


class EveryLetterEnds(unittest.TestCase):
    """Promises 3 and 4, on drawn lines over few points and days, so that ways meet."""

    def drawn_line(self, draw, days):
        first = draw.choice(days)
        end = f" until {first + draw.randrange(1, 5)}"
        point, target = draw.sample(range(6), 2)
        words = draw.choice(("", "", "", " for a", " for b a"))
        kind = draw.choice(("move", "move", "move", "hold", "hold", "stop"))
        if kind == "move":
            return f"move {point} {target} {first}{draw.choice((end, ''))}{draw.choice((' open', ''))}{words}"
        if kind == "hold":
            return f"hold {point} {first}{end}{words}"
        return f"stop {point} {first}{end}{words}"

    def cases(self, seed, many):
        draw = random.Random(seed)
        for case in range(many):
            lines = [self.drawn_line(draw, range(40)) for line in range(draw.choice((3, 10, 40, 120)))]
            for letter in range(6):
                yield draw, lines, (draw.randrange(6), draw.randrange(42), draw.randrange(2),
                                    draw.choice(("", "a", "b a")))

    def check_reason(self, lines, letter, answer):
        """That what is answered is so, step by step."""
        how, where, day, steps = answer[1:5]
        gone = answer[5:5 + steps]
        behind = answer[5 + steps:]
        model = Model()
        model.hold(text_of(lines).encode())
        words = letter[3].split()
        place, places = letter[:2], []
        for number in gone:
            line = model.counting(*place, words)
            self.assertEqual(line.number, number)
            self.assertNotIn(place, places)
            self.assertTrue(line.kind == "hold" or line.kind == "move" and letter[2])
            places.append(place)
            place = (line.target, place[1]) if line.kind == "move" else (place[0], line.end)
        self.assertEqual(place, (where, day))
        self.assertLessEqual(steps, 32)
        line = model.counting(where, day, words)
        self.assertEqual(behind, [line.number] if line else [])
        self.assertEqual(how == 0, line is None)
        self.assertTrue({0: line is None, 1: line and line.kind == "stop", 2: place in places,
                         3: steps == 32 and place not in places and line and line.kind != "stop",
                         4: line and line.kind == "move" and not letter[2]}[how])

    def test_each_end_is_so(self):
        seen = {}
        for draw, lines, letter in self.cases(3, 700):
            answer = ask(take(text_of(lines)), follow(*letter))[1]
            self.check_reason(lines, letter, answer)
            seen[answer[1]] = seen.get(answer[1], 0) + 1
        self.assertTrue(all(seen.get(how, 0) > 50 for how in (0, 1, 2, 4)), seen)

    def test_lines_never_in_force_on_the_way_change_nothing(self):
        # Lines behind the others: all of the answer stays; lines anywhere: all but the lines' numbers.
        for draw, lines, letter in self.cases(4, 150):
            answer = ask(take(text_of(lines)), follow(*letter))[1]
            days = {letter[1], answer[3]}
            for number in answer[5:5 + answer[4]]:
                if lines[number].startswith("hold"):
                    days.add(int(lines[number].split()[4]))
            others = [self.drawn_line(draw, range(45)) for line in range(30)]
            model = Model()
            model.hold(text_of(others).encode())
            idle = [others[line.number] for at_point in model.lines.values() for line in at_point
                    if not any(line.first <= day < line.end for day in days)]
            self.assertEqual(ask(take(text_of(lines + idle)), follow(*letter))[1], answer)
            mixed = list(lines)
            for line in idle:
                mixed.insert(draw.randrange(len(mixed) + 1), line)
            self.assertEqual(ask(take(text_of(mixed)), follow(*letter))[1][:5], answer[:5])

    def test_without_the_lines_that_are_never_in_force(self):
        for draw, lines, letter in self.cases(5, 200):
            answer = ask(take(text_of(lines)), follow(*letter))[1]
            model = Model()
            model.hold(text_of(lines).encode())
            days = [letter[1]] + [int(lines[number].split()[4]) for number in answer[5:5 + answer[4]]
                                  if lines[number].startswith("hold")]
            kept = sorted(line.number for at_point in model.lines.values() for line in at_point
                          if any(line.first <= day < line.end for day in days))
            left = ask(take(text_of([lines[number] for number in kept])), follow(*letter))[1]
            self.assertEqual(left[:5], answer[:5])
            self.assertEqual([kept[number] for number in left[5:]], answer[5:])


class TheHeldLines(unittest.TestCase):
    A, B = "move 1 2 3\n", "hold 2 3 until 9\n"

    def test_behind_take_and_more(self):
        self.assertEqual(ask(follow(1, 5), take(self.A), follow(1, 5), more(self.B), follow(1, 5), take(self.B),
                             follow(1, 5), follow(2, 5), take(""), follow(2, 5)),
                         [[0, 0, 1, 5, 0], DONE, [0, 0, 2, 5, 1, 0], DONE, [0, 0, 2, 9, 2, 0, 1], DONE,
                          [0, 0, 1, 5, 0], [0, 0, 2, 9, 1, 0], DONE, [0, 0, 2, 5, 0]])

    def test_behind_a_refused_take_or_more(self):
        for refused in (take(self.B + "x\n"), more(self.B + "x\n"), take("x"), more("x")):
            answered = ask(take(self.A), refused, follow(1, 5), TEXT)
            self.assertEqual(answered[1][0], -6)
            self.assertEqual(answered[2:], [[0, 0, 2, 5, 1, 0], told(self.A)])
            self.assertEqual(ask(refused, follow(1, 5))[1], [0, 0, 1, 5, 0])

    def test_it_changes_nothing(self):
        self.assertEqual(ask(take(self.A + self.B), follow(1, 5), follow(1, 5, 0), follow(1, 5, 1, "anna"),
                             follow(1, 5), TEXT, SIZES)[1:],
                         [[0, 0, 2, 9, 2, 0, 1], [0, 4, 1, 5, 0, 0], [0, 0, 2, 9, 2, 0, 1], [0, 0, 2, 9, 2, 0, 1],
                          told(self.A + self.B), [0, 2, 1, 1, 0]])


if __name__ == "__main__":
    unittest.main()
