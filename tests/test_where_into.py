"""Promise 5 and the calls where and into: who may be told where a letter is, and which letters come to a point."""

import itertools
import random
import unittest

from helper import DONE, SIZES, TEXT, ask, follow, into, model_answers, more, take, text_of, told, where

NONE = [-3]


def chain(steps, tail=""):
    return [f"move {100 + step} {101 + step} 0{tail}" for step in range(steps)]


class Where(unittest.TestCase):
    def check(self, lines, letter, answer):
        calls = (take(text_of(lines)), where(*letter))
        self.assertEqual(ask(*calls)[1], answer)
        self.assertEqual(model_answers(*calls)[1], answer)

    def test_no_move_at_all(self):
        self.assertEqual(ask(where(7, 9), where(0, 0, "anna"), where(4095, 1000000)), [[7], [0], [4095]])
        self.check(["move 2 1 0", "stop 1 10", "move 1 2 0 until 9"], (1, 9), [1])

    def test_moves_that_are_open(self):
        self.check(["move 1 2 0 open"], (1, 9), [2])
        self.check(["move 1 2 0 until 10 open", "move 2 3 0 open for anna"], (1, 9, "anna"), [3])
        self.check(chain(32, " open"), (100, 9), [132])

    def test_moves_that_are_not(self):
        self.check(["move 1 2 0"], (1, 9), NONE)
        self.check(["move 1 2 0 until 10"], (1, 9), NONE)
        self.check(["move 1 2 0 for open"], (1, 9, "open"), NONE)
        self.check(chain(32), (100, 9), NONE)

    def test_one_of_several_that_is_not(self):
        for size in (2, 3, 32):
            for place in range(size):
                lines = chain(size, " open")
                lines[place] = lines[place].replace(" open", "")
                self.check(lines, (100, 9), NONE)
                self.check(lines, (101 + place, 9), [100 + size])

    def test_a_hold_on_the_way(self):
        self.check(["hold 1 0 until 20"], (1, 9), [1])
        self.check(["move 1 2 0 open", "hold 2 0 until 20", "move 2 3 20 open"], (1, 9), [3])
        self.check(["move 1 2 0", "hold 2 0 until 20", "move 2 3 20 open"], (1, 9), NONE)
        self.check(["move 1 2 0 open", "hold 2 0 until 20", "move 2 3 20"], (1, 9), NONE)
        self.check(["hold 1 0 until 20", "move 1 2 0 until 20"], (1, 9), NONE)
        self.check(["move 1 2 0 until 20", "hold 1 0 until 20"], (1, 9), [1])

    def test_a_move_that_is_not_on_the_way(self):
        self.check(["move 1 2 0", "move 1 3 0 open", "move 2 3 0"], (1, 9), [3])
        self.check(["move 1 2 0 open", "move 1 3 0"], (1, 9), NONE)

    def test_letters_that_go_back(self):
        self.check(["stop 1 0"], (1, 9), NONE)
        self.check(["move 1 2 0 open", "stop 2 0"], (1, 9), NONE)
        self.check(["move 1 2 0 open", "move 2 1 0 open"], (1, 9), NONE)
        self.check(chain(33, " open"), (100, 9), NONE)
        self.check([f"hold 1 {day} until {day + 1}" for day in range(33)], (1, 0), NONE)
        self.check([f"hold 1 {day} until {day + 1}" for day in range(32)], (1, 0), [1])

    def test_for_a_person(self):
        lines = ["move 1 2 0", "move 1 3 0 open for anna", "move 3 4 0 open for bo"]
        self.check(lines, (1, 9, "Anna"), [3])
        self.check(lines, (1, 9, "Anna Bo"), [4])
        self.check(lines, (1, 9, "Bo"), NONE)
        self.check(lines, (1, 9), NONE)

    def test_it_changes_nothing(self):
        text = "move 1 2 0 open\nstop 3 0\n"
        self.assertEqual(ask(take(text), where(1, 9), where(3, 9), where(4096, 9), where(1, 9), TEXT, SIZES)[1:],
                         [[2], NONE, [-1], [2], told(text), [0, 2, 1, 0, 1]])

    def test_behind_take_more_and_refusals(self):
        a, b = "move 1 2 0 open\n", "move 2 3 0\n"
        self.assertEqual(ask(where(1, 9), take(a), where(1, 9), more(b + "x\n"), where(1, 9), take(b[:-1]),
                             where(1, 9), more(b), where(1, 9), take(b), where(1, 9), where(2, 9)),
                         [[1], DONE, [2], [-6, 2, 1], [2], [-6, 0, 1], [2], DONE, NONE, DONE, [1], NONE])


class Into(unittest.TestCase):
    def check(self, lines, point, day, starts):
        calls = (take(text_of(lines)), into(point, day))
        self.assertEqual(ask(*calls)[1], [len(starts)] + starts)
        self.assertEqual(model_answers(*calls)[1], [len(starts)] + starts)

    def test_a_point_with_nothing(self):
        self.assertEqual(ask(into(0, 0), into(7, 9), into(4095, 1000000)), [[1, 0], [1, 7], [1, 4095]])
        self.check(["move 1 2 0", "stop 3 0"], 7, 9, [7])

    def test_a_point_whose_own_letters_go_elsewhere(self):
        self.check(["move 7 8 0"], 7, 9, [])
        self.check(["stop 7 0"], 7, 9, [])
        self.check(["move 7 8 0"], 8, 9, [7, 8])
        self.check(["move 7 8 10"], 7, 9, [7])
        self.check(["move 7 8 0 until 9"], 7, 9, [7])

    def test_points_rise_whatever_the_order_of_the_lines(self):
        for lines in itertools.permutations(("move 9 5 0", "move 2 5 0", "move 11 5 0", "move 4095 5 0", "move 0 5 0")):
            self.check(lines, 5, 9, [0, 2, 5, 9, 11, 4095])

    def test_a_point_that_many_points_go_to(self):
        lines = [f"move {point} 7 0" for point in range(1500) if point != 7]
        self.check(lines, 7, 9, list(range(1500)))
        self.check(lines, 8, 9, [])
        self.check(lines, 1500, 9, [1500])

    def test_each_point_once_though_more_of_its_lines_lead_there(self):
        self.check(["move 1 7 0", "move 1 7 1", "move 1 2 0", "move 2 7 0", "hold 1 2 until 3"], 7, 2, [1, 2, 7])

    def test_ways_over_many_steps(self):
        self.check(chain(32), 132, 9, list(range(100, 133)))
        self.check(chain(33), 133, 9, list(range(101, 134)))
        self.check(chain(40), 140, 9, list(range(108, 141)))
        self.check(chain(40), 132, 9, [])

    def test_ways_that_hold(self):
        lines = ["hold 1 0 until 20", "move 1 2 20", "hold 2 0 until 30", "move 2 3 0 until 20", "hold 3 0 until 5"]
        self.check(lines, 1, 9, [])
        self.check(lines, 2, 9, [1])
        self.check(lines, 3, 9, [2, 3])
        self.check(lines, 3, 0, [2, 3])
        self.check(lines, 2, 0, [1])
        self.check(lines, 2, 29, [1, 2])
        holds = [f"hold 1 {day} until {day + 1}" for day in range(33)]
        self.check(holds, 1, 0, [])
        self.check(holds, 1, 1, [1])

    def test_points_whose_letters_go_back(self):
        lines = ["move 1 2 0", "move 2 1 0", "move 3 4 0", "stop 4 0", "move 5 1 0"] + chain(33)
        for point in (1, 2, 3, 4, 5, 100):
            self.check(lines, point, 9, [])
        self.check(lines, 133, 9, list(range(101, 134)))

    def test_lines_with_for_are_for_nobody_here(self):
        self.check(["move 1 2 0 for anna"], 2, 9, [2])
        self.check(["move 1 2 0 for anna"], 1, 9, [1])
        self.check(["move 1 2 0", "move 1 3 0 for anna"], 2, 9, [1, 2])
        self.check(["move 1 2 0", "stop 1 0 for anna", "stop 2 5 for anna bo"], 2, 9, [1, 2])

    def test_moves_need_not_be_open(self):
        self.check(["move 1 2 0", "move 3 2 0 open"], 2, 9, [1, 2, 3])

    def test_points_and_days_that_are_not(self):
        for point, day in ((4096, 9), (9, 1000001), (4294967295, 0), (0, 4294967295), (4096, 1000001)):
            self.assertEqual(ask(take("move 1 2 0\n"), into(point, day), TEXT)[1:], [[-1], told("move 1 2 0\n")])

    def test_the_first_and_last_points_and_days(self):
        lines = ["move 0 4095 1000000", "move 4095 0 0 until 1"]
        self.check(lines, 4095, 1000000, [0, 4095])
        self.check(lines, 0, 0, [0, 4095])
        self.check(lines, 0, 1, [0])
        self.check(lines, 4095, 999999, [4095])

    def test_it_changes_nothing(self):
        text = "move 1 2 0\nstop 3 0\n"
        self.assertEqual(ask(take(text), into(2, 9), into(3, 9), into(4096, 9), into(2, 9), TEXT, SIZES)[1:],
                         [[2, 1, 2], [0], [-1], [2, 1, 2], told(text), [0, 2, 1, 0, 1]])

    def test_behind_take_more_and_refusals(self):
        a, b, c = "move 1 2 0\n", "move 3 1 0\n", "stop 2 0\n"
        self.assertEqual(ask(into(2, 9), take(a), into(2, 9), more(c + "x\n"), into(2, 9), take(c[:-1]), into(2, 9),
                             more(b), into(2, 9), more(c), into(2, 9), take(b), into(2, 9), into(1, 9), take(""),
                             into(1, 9)),
                         [[1, 2], DONE, [2, 1, 2], [-6, 2, 1], [2, 1, 2], [-6, 0, 1], [2, 1, 2], DONE, [3, 1, 2, 3],
                          DONE, [0], DONE, [1, 2], [2, 1, 3], DONE, [1, 1]])

    def test_other_days_and_points_behind_one_another(self):
        lines = ["move 1 2 5 until 9", "move 2 1 9", "hold 1 7 until 9"]
        calls = [take(text_of(lines))] + [into(point, day) for day in (6, 9, 7, 4, 8, 9, 6) for point in (1, 2, 3)]
        self.assertEqual(ask(*calls), model_answers(*calls))


class JustThoseWhoseWayEndsThere(unittest.TestCase):
    def drawn_lines(self, draw):
        lines = []
        for line in range(draw.choice((5, 30, 60))):
            point, target = draw.sample(range(12), 2)
            first = draw.randrange(20)
            end = f" until {first + draw.randrange(1, 9)}"
            lines.append(draw.choice((f"move {point} {target} {first}", f"move {point} {target} {first}{end} open",
                                      f"hold {point} {first}{end}", f"stop {point} {first}{end}",
                                      f"move {point} {target} {first} for a")))
        return lines

    def test_into_is_what_follow_tells_of_each_point(self):
        draw = random.Random(5)
        for case in range(60):
            text = text_of(self.drawn_lines(draw))
            day = draw.randrange(30)
            ways = ask(take(text), *[follow(start, day) for start in range(16)])[1:]
            told_of = ask(take(text), *[into(point, day) for point in range(16)])[1:]
            for point, answer in enumerate(told_of):
                starts = [start for start, way in enumerate(ways) if way[1:3] == [0, point]]
                self.assertEqual(answer, [len(starts)] + starts)


if __name__ == "__main__":
    unittest.main()
