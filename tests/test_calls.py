"""Promise 1 and the calls take, more, text and sizes, one behind another."""

import itertools
import random
import unittest

from helper import DONE, SIZES, TEXT, as_bytes, ask, fault_of, model_answers, more, take, told

NONE = [0, 0, 0, 0, 0]
A = "move 1 2 3 until 4 open for anna\n"
B = "hold 4 5 until 6\n"
C = "stop 7 8 for bo\n"
TOO_LONG = [-2]


class Take(unittest.TestCase):
    def test_holds_these_lines_from_now_on(self):
        self.assertEqual(ask(take(A + B), TEXT, take(C), TEXT, SIZES),
                         [DONE, told(A + B), DONE, told(C), [0, 1, 0, 0, 1]])

    def test_no_lines_in_the_place_of_some(self):
        self.assertEqual(ask(take(A), take(""), TEXT, SIZES), [DONE, DONE, [0], NONE])

    def test_behind_a_refusal_the_object_is_as_it_was(self):
        for text in ("x\n", A + "x\n", A + B + C + "\n", C[:-1]):
            held = ask(take(A + B), take(text), TEXT, SIZES)
            self.assertEqual(held[1], fault_of(text.encode()))
            self.assertEqual(held[2:], [told(A + B), [0, 2, 1, 1, 0]])

    def test_the_fault_of_take_counts_no_held_lines(self):
        self.assertEqual(ask(take(A + B), take(C + "x\n")), [DONE, [-6, 1, 1]])

    def test_most_bytes(self):
        # Longer than a list of calls may be, but the words of the call name this edge.
        row = "stop 1 3 for " + "a " * 7 + "a"
        row += "a" * (31 - len(row)) + "\n"
        text = row * 2048
        self.assertEqual(len(text), 65536)
        self.assertEqual(ask(take(text), SIZES), [DONE, [0, 2048, 0, 0, 2048]])
        self.assertEqual(ask(take(A), take(text + "x"), TEXT), [DONE, TOO_LONG, told(A)])
        self.assertEqual(ask(take("x" + text[1:])), [[-6, 0, 1]])
        self.assertEqual(ask(take("x" + text)), [TOO_LONG])
        self.assertEqual(ask(take("x" * 65536), take("x" * 65537)), [[-6, 0, 1], TOO_LONG])


class More(unittest.TestCase):
    def test_of_a_new_object(self):
        self.assertEqual(ask(more(A), TEXT, SIZES), [DONE, told(A), [0, 1, 1, 0, 0]])
        self.assertEqual(ask(more(""), TEXT, SIZES), [DONE, [0], NONE])
        self.assertEqual(ask(more("x\n"), TEXT, SIZES), [[-6, 0, 1], [0], NONE])

    def test_behind_a_take(self):
        self.assertEqual(ask(take(A), more(B + C), TEXT, SIZES), [DONE, DONE, told(A + B + C), [0, 3, 1, 1, 1]])

    def test_no_lines_behind_some(self):
        self.assertEqual(ask(take(A), more(""), TEXT), [DONE, DONE, told(A)])

    def test_behind_more(self):
        self.assertEqual(ask(more(C), more(B), more(A), more(C), TEXT, SIZES),
                         [DONE, DONE, DONE, DONE, told(C + B + A + C), [0, 4, 1, 1, 2]])

    def test_the_fault_counts_the_held_lines(self):
        self.assertEqual(ask(take(A + B), more("x\n")), [DONE, [-6, 2, 1]])
        self.assertEqual(ask(take(A + B), more(C + "x\n" + "x\n")), [DONE, [-6, 3, 1]])
        self.assertEqual(ask(take(A + B), more(C), more(C + A[:-1])), [DONE, DONE, [-6, 4, 1]])
        self.assertEqual(ask(take(A), more("\n")), [DONE, [-6, 1, 1]])

    def test_behind_a_refusal_the_object_is_as_it_was(self):
        self.assertEqual(ask(take(A), more(B + "x\n"), TEXT, SIZES, more(C), TEXT),
                         [DONE, [-6, 2, 1], told(A), [0, 1, 1, 0, 0], DONE, told(A + C)])

    def test_a_line_is_not_told_in_two_parts(self):
        for place in range(1, len(A)):
            self.assertEqual(ask(take(A[:place]), more(A[place:]), TEXT), [[-6, 0, 1], [-6, 0, 1], [0]])
            self.assertEqual(ask(take(B), more(A[:place]), more(A[place:]), TEXT),
                             [DONE, [-6, 1, 1], [-6, 1, 1], told(B)])

    def test_what_stands_behind_is_no_part_of_the_held_last_line(self):
        self.assertEqual(ask(take("stop 1 3\n"), more(" for anna\n")), [DONE, [-6, 1, 1]])
        self.assertEqual(ask(take("stop 1 3\n"), more("4\n")), [DONE, [-6, 1, 1]])

    def test_the_line_that_is_one_too_many(self):
        line = "stop 0 0\n"
        self.assertEqual(ask(take(line * 4095), more(line), more(""), more(line), more("x\n"), more(line[:-1]), SIZES),
                         [DONE, DONE, DONE, [-6, 4096, 2], [-6, 4096, 1], [-6, 4096, 1], [0, 4096, 0, 0, 4096]])

    def test_a_held_text_and_a_new_one_that_come_to_too_many_bytes(self):
        row = "stop 1 3 for aaaaaaaaaaaaaaaaaa\n"
        held = row * 2047
        self.assertEqual(len(row) * 2048, 65536)
        self.assertEqual(ask(take(held), more(row), more("x"), more(""), SIZES),
                         [DONE, DONE, TOO_LONG, DONE, [0, 2048, 0, 0, 2048]])
        self.assertEqual(ask(take(held), more("x" * 33), more("x" * 32), TEXT),
                         [DONE, TOO_LONG, [-6, 2047, 1], told(held)])


class TextAndSizes(unittest.TestCase):
    def test_of_a_new_object(self):
        self.assertEqual(ask(TEXT), [[0]])
        self.assertEqual(ask(SIZES), [NONE])

    def test_they_change_nothing(self):
        self.assertEqual(ask(take(A), TEXT, TEXT, SIZES, SIZES, TEXT),
                         [DONE, told(A), told(A), [0, 1, 1, 0, 0], [0, 1, 1, 0, 0], told(A)])

    def test_sizes_in_their_order(self):
        text = A * 3 + B * 5 + C * 7 + A
        self.assertEqual(ask(take(text), SIZES), [DONE, [0, 16, 4, 5, 7]])

    def test_what_text_tells_is_taken_as_the_held_lines(self):
        for text in ("", A, B, C, A + B + C, C * 3 + B, "move 0 4095 1000000 for for open until 0\n"):
            answered, sizes = ask(take(text), TEXT, SIZES)[1:]
            self.assertEqual(answered[0], len(answered) - 1)
            self.assertEqual(ask(take(answered[1:]), TEXT, SIZES), [DONE, answered, sizes])
            self.assertEqual(ask(more(answered[1:]), TEXT, SIZES), [DONE, answered, sizes])

    def test_of_a_long_text(self):
        text = "stop 0 0\n" * 3433
        self.assertEqual(ask(take(text), TEXT, SIZES), [DONE, told(text), [0, 3433, 0, 0, 3433]])


class ManyCalls(unittest.TestCase):
    def check(self, calls):
        self.assertEqual(ask(*calls), model_answers(*calls))

    def test_each_kind_in_every_order(self):
        kinds = (take(A + C), take("x\n"), more(B), more(C + "x"), TEXT, SIZES)
        for size in range(1, 5):
            for calls in itertools.product(kinds, repeat=size):
                self.check(calls + (TEXT, SIZES))

    def test_four_hundred_calls(self):
        self.check([more(A)] * 400)
        self.check([take(A), more(B), TEXT, SIZES] * 100)
        self.check([TEXT] * 400)

    def random_number(self, draw, most):
        if draw.random() < 0.02:
            return most + 1
        return draw.choice((0, 1, most, draw.randrange(most + 1), draw.randrange(8)))

    def random_line(self, draw):
        kind = draw.choice(("move", "hold", "stop"))
        parts = [kind, self.random_number(draw, 4095)]
        if kind == "move":
            parts.append(self.random_number(draw, 4095))
        first = self.random_number(draw, 1000000)
        parts.append(first)
        if kind == "hold" or draw.random() < 0.4:
            parts += ["until", draw.choice((first, first + 1, first + 9, self.random_number(draw, 1000000)))]
        if kind == "move" and draw.random() < 0.5:
            parts.append("open")
        if draw.random() < 0.5:
            words = ("a", "z" * 32, "for", "open", "until", "0", "b7")
            parts += ["for"] + [draw.choice(words) for word in range(draw.choice((1, 1, 2, 3, 8)))]
        if draw.random() < 0.04:
            draw.shuffle(parts)
        return " ".join(map(str, parts)).encode() + b"\n"

    def random_text(self, draw):
        text = b"".join([self.random_line(draw) for line in range(draw.choice((0, 1, 1, 2, 3)))])
        if text and draw.random() < 0.15:
            place = draw.randrange(len(text))
            text = text[:place] + bytes([draw.choice((0, 9, 10, 32, 48, 97, 255))]) + text[place + draw.randrange(2):]
        return text

    def test_many_drawn_calls(self):
        draw = random.Random(20)
        right = 0
        for case in range(3000):
            calls = []
            for call in range(draw.randrange(1, 12)):
                makers = (lambda: take(self.random_text(draw)), lambda: more(self.random_text(draw)),
                          lambda: more(self.random_text(draw)), lambda: TEXT, lambda: SIZES)
                calls.append(draw.choice(makers)())
            self.check(calls)
            right += sum(answer == DONE for call, answer in zip(calls, ask(*calls)) if len(call) > 2)
        self.assertGreater(right, 3000, "too few of the drawn texts are right to tell something")

    def test_drawn_texts_are_told_as_they_were_taken(self):
        draw = random.Random(21)
        for case in range(3000):
            text = self.random_text(draw)
            answered = ask(take(text), TEXT)
            if answered[0] == DONE:
                self.assertEqual(answered[1], told(text))
                self.assertEqual(ask(take(answered[1][1:]), TEXT), answered)
            else:
                self.assertEqual(answered, [fault_of(as_bytes(text)), [0]])


if __name__ == "__main__":
    unittest.main()
