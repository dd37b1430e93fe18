"""The interface: how calls and answers stand in their lists, and what else is promised of it."""

import contextlib
import io
import sys
import unittest

from mailmoves.desk import UnknownCall, answers

STOP = list(b"stop 1 3\n")
HOLD = list(b"hold 1 3 until 4\n")
WRONG = list(b"stop 1\n")
MIXED = ([2, 3, 0, 9] + STOP + [2, 1, 17] + HOLD + [3, 1, 7] + WRONG + [0, 7] + WRONG + [2, 0, 0, 3, 1, 0, 2])
MIXED_ANSWERS = ([1, 0, 5, 0, 0, 0, 0, 0, 1, 0, 10, 9] + STOP + [1, 0, 5, 0, 2, 0, 1, 1, 3, -6, 2, 1, 3, -6, 0, 1]
                 + [27, 26] + STOP + HOLD + [1, 0, 5, 0, 0, 0, 0, 0, 1, 0, 1, 0])
MOVE = list(b"move 1 2 3 open\n")
ANNA = list(b"stop 2 9 for anna\n")
NAME = [65, 110, 110, 97]
WAYS = ([0, 16] + MOVE + [4, 1, 5, 0, 4, 2, 5, 0, 5, 1, 5, 1, 0, 5, 1, 5, 0, 0, 6, 1, 5, 0, 7, 2, 5]
        + [1, 18] + ANNA + [4, 2, 9, 4] + NAME + [5, 1, 9, 1, 4] + NAME + [6, 1, 9, 4] + NAME + [7, 2, 9]
        + [4, 1, 5, 2, 97, 0, 5, 1, 5, 0, 1, -1, 6, 1, 5, 3, 97, 97, 55296]
        + [4, 4096, 5, 0, 5, 1, 1000001, 1, 0, 6, 4096, 1000001, 0, 7, 4096, 5]
        + [4, 1, 5, 33] + [97] * 33 + [5, 4096, 5, 1, 33] + [97] * 33 + [6, 1, 5, 513] + [33] * 513 + [2])
WAYS_ANSWERS = ([1, 0, 1, 0, 1, -3, 6, 0, 0, 2, 5, 1, 0, 6, 0, 4, 1, 5, 0, 0, 1, 2, 3, 2, 1, 2]
                + [1, 0, 1, 1, 7, 0, 1, 2, 9, 1, 0, 1, 1, -3, 3, 2, 1, 2]
                + [2, -6, 1, 2, -6, 0, 2, -6, 2]
                + [1, -1, 1, -1, 1, -1, 1, -1]
                + [1, -2, 1, -2, 1, -2, 35, 34] + MOVE + ANNA)


class OnlyRead(list):
    """A list that fails as soon as something is changed in it."""

    def refuse(self, *given, **named):
        raise AssertionError("what is handed in was changed")

    append = extend = insert = pop = remove = clear = sort = reverse = refuse
    __setitem__ = __delitem__ = __iadd__ = __imul__ = refuse


class Lists(unittest.TestCase):
    def test_one_call(self):
        self.assertEqual(answers([0, 9] + STOP), [1, 0])
        self.assertEqual(answers([1, 9] + STOP), [1, 0])
        self.assertEqual(answers([0, 0]), [1, 0])
        self.assertEqual(answers([2]), [1, 0])
        self.assertEqual(answers([3]), [5, 0, 0, 0, 0, 0])
        self.assertEqual(answers([0, 7] + WRONG), [3, -6, 0, 1])

    def test_calls_and_answers_one_behind_another(self):
        self.assertEqual(answers(MIXED), MIXED_ANSWERS)

    def test_calls_about_ways_and_their_answers(self):
        self.assertEqual(answers(WAYS), WAYS_ANSWERS)

    def test_each_call_about_ways_alone_on_a_new_object(self):
        self.assertEqual(answers([4, 1, 5, 0]), [1, -3])
        self.assertEqual(answers([5, 1, 5, 0, 0]), [5, 0, 0, 1, 5, 0])
        self.assertEqual(answers([5, 1, 5, 1, 1, 97]), [5, 0, 0, 1, 5, 0])
        self.assertEqual(answers([6, 1, 5, 0]), [1, 1])
        self.assertEqual(answers([7, 1, 5]), [2, 1, 1])

    def test_a_name_ends_where_its_count_says(self):
        # The numbers 2 and 3 within a name are no calls, and a call behind a name is no character of it.
        self.assertEqual(answers([4, 1, 5, 2, 2, 3]), [1, -3])
        self.assertEqual(answers([6, 1, 5, 1, 2, 3]), [1, 1, 5, 0, 0, 0, 0, 0])
        self.assertEqual(answers([5, 1, 5, 1, 0, 2]), [5, 0, 0, 1, 5, 0, 1, 0])
        self.assertEqual(answers([7, 1, 5, 2]), [2, 1, 1, 1, 0])
        # Behind a refusal, too, the next call stands behind the whole of this one.
        self.assertEqual(answers([4, 4096, 5, 2, 0, 0, 2]), [2, -6, 0, 1, 0])
        self.assertEqual(answers([5, 4096, 5, 0, 1, 97, 3]), [1, -1, 5, 0, 0, 0, 0, 0])
        self.assertEqual(answers([7, 4096, 5, 2]), [1, -1, 1, 0])

    def test_a_row_ends_where_its_count_says(self):
        # The bytes 2 and 3 within a text are no calls, and a call behind a text is no byte of it.
        self.assertEqual(answers([0, 2, 2, 3]), [3, -6, 0, 1])
        self.assertEqual(answers([0, 8] + STOP[:8] + [2]), [3, -6, 0, 1, 1, 0])
        self.assertEqual(answers([0, 9] + STOP + [0, 0, 2]), [1, 0, 1, 0, 1, 0])

    def test_the_longest_text(self):
        text = (STOP * 3434)[:30897]
        self.assertEqual(len(text) % 9, 0)
        self.assertEqual(answers([0, 30897] + text + [2])[:4], [1, 0, 30898, 30897])
        self.assertEqual(answers([0, 30900] + [97] * 30900), [3, -6, 0, 1])
        self.assertEqual(answers([0, 30900] + [10] * 30900), [3, -6, 0, 1])
        self.assertEqual(answers([0, 30900] + [32] * 30900), [3, -6, 0, 1])
        self.assertEqual(answers([0, 30900] + [49] * 30900), [3, -6, 0, 1])

    def test_a_number_that_is_no_call(self):
        for calls in ([8], [-1], [2, 8], [0, 9] + STOP + [8, 2]):
            with self.assertRaises(UnknownCall):
                answers(calls)

    def test_whole_numbers_in_a_list(self):
        for calls in (MIXED, WAYS):
            given = answers(calls)
            self.assertIs(type(given), list)
            self.assertEqual({type(number) for number in given}, {int})


class NothingElse(unittest.TestCase):
    def test_what_is_handed_in_is_as_it_was(self):
        for kept in (MIXED, WAYS):
            calls = list(kept)
            answers(calls)
            self.assertEqual(calls, kept)

    def test_what_is_handed_in_is_not_changed_for_a_while_either(self):
        self.assertEqual(answers(OnlyRead(MIXED)), MIXED_ANSWERS)
        self.assertEqual(answers(OnlyRead(WAYS)), WAYS_ANSWERS)

    def test_the_same_list_twice(self):
        for kept in (MIXED, WAYS):
            calls = list(kept)
            self.assertEqual(answers(calls), answers(calls))

    def test_nothing_is_kept_from_one_time_to_the_next(self):
        answers([0, 9] + STOP)
        self.assertEqual(answers([2, 3]), [1, 0, 5, 0, 0, 0, 0, 0])
        answers([1, 9] + STOP)
        self.assertEqual(answers([1, 9] + STOP + [3]), [1, 0, 5, 0, 1, 0, 0, 1])
        self.assertEqual(answers([1, 7] + WRONG), [3, -6, 0, 1])
        answers(WAYS)
        self.assertEqual(answers([4, 1, 5, 0, 6, 1, 5, 0, 7, 2, 5]), [1, -3, 1, 1, 2, 1, 2])

    def test_what_is_given_back_may_be_changed(self):
        for calls in ([2], [3], [0, 9] + STOP + [2, 2], WAYS):
            first = answers(calls)
            kept = list(first)
            first.clear()
            self.assertEqual(answers(calls), kept)

    def test_it_prints_and_imports_nothing(self):
        said = io.StringIO()
        modules = set(sys.modules)
        with contextlib.redirect_stdout(said), contextlib.redirect_stderr(said):
            answers(MIXED)
            answers(WAYS)
        self.assertEqual(said.getvalue(), "")
        self.assertEqual(set(sys.modules), modules)

    def test_what_is_long_is_gone_through_by_loops(self):
        deepest = sys.getrecursionlimit()
        sys.setrecursionlimit(200)
        try:
            given = [answers([0, 27000] + STOP * 3000 + [3]), answers([3] * 400)]
            chain = list("".join([f"move {point} {point + 1} 0\n" for point in range(1500)]).encode())
            ways = answers([0, len(chain)] + chain + [5, 0, 5, 1, 512] + [97, 32] * 64 + [33] * 384 + [7, 1500, 5])
        finally:
            sys.setrecursionlimit(deepest)
        self.assertEqual(given, [[1, 0, 5, 0, 3000, 0, 0, 3000], [5, 0, 0, 0, 0, 0] * 400])
        self.assertEqual(ways, [1, 0, 38, 0, 3, 32, 5, 32] + list(range(33)) + [34, 33] + list(range(1468, 1501)))


if __name__ == "__main__":
    unittest.main()
