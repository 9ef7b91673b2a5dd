"""The list that is handed in, the list that is given back, and what holds for every call."""

import contextlib
import io
import unittest

from pipecrew.desk import answers
from tests.calling import ask, built, last, written

GREATEST = 4294967295

# One call of each kind with arguments that are in range behind built([10, 4]).
EACH_CALL = [
    ("add_pipe", [7, 3]),
    ("remove_pipe", 0),
    ("operate", 0),
    ("operate_days", [0, 1]),
    ("ages",),
    ("output_if", 0),
    ("best_total", 3),
    ("best_choice", 3),
    ("best_mean",),
]


class Lists(unittest.TestCase):
    def test_the_documents_example(self):
        calls = [0, 1, 2, 10, 4, 3, 0, 6, 0, 7, 3, 9, 3, 1]
        self.assertEqual(answers(calls), [1, 0, 1, 0, 1, 10, 1, 4, 1, 14, 3, 0, 5, 1, 1, 0])

    def test_each_answer_stands_behind_its_count(self):
        self.assertEqual(answers([0]), [1, 0])
        self.assertEqual(answers([5]), [1, -11])
        self.assertEqual(answers([0, 5]), [1, 0, 1, 0])
        self.assertEqual(answers([0, 1, 1, 9, 1, 2, 8, 7, 5]), [1, 0, 1, 0, 1, 1, 3, 2, 0, 0])

    def test_empty_list_arguments_are_read(self):
        self.assertEqual(answers([0, 1, 0, 4, 0, 5]), [1, 0, 1, -22, 1, 0, 1, 0])

    def test_refused_calls_are_read_to_their_end(self):
        for number in (1, 4):
            for count in (0, 5, 21, 60):
                calls = [number, count] + [GREATEST] * count + [0, 5]
                self.assertEqual(answers(calls), [1, -11, 1, 0, 1, 0])
        calls = [2, 0, 3, 0, 6, 0, 7, 0, 8, 0, 9, 0]
        self.assertEqual(answers(calls), [1, -11] * 6 + [1, 0])

    def test_what_is_handed_in_stays_the_same(self):
        calls = written(built([10, 4], [9, 9, 1]) + EACH_CALL)
        before = list(calls)
        answers(calls)
        self.assertEqual(calls, before)

    def test_nothing_is_changed_for_a_while_either(self):
        class Fixed(list):
            def refuse(self, *arguments):
                raise AssertionError("changed")

            __setitem__ = __delitem__ = __iadd__ = __imul__ = refuse
            append = clear = extend = insert = pop = remove = reverse = sort = refuse

        calls = written(built([10, 4], [9, 9, 1]) + EACH_CALL)
        self.assertEqual(answers(Fixed(calls)), answers(calls))

    def test_what_is_given_back_is_the_callers(self):
        calls = written(built([10, 4]) + EACH_CALL)
        first = answers(calls)
        kept = list(first)
        first.clear()
        self.assertEqual(answers(calls), kept)

    def test_the_same_calls_give_the_same_again(self):
        calls = written(built([10, 4], [9, 9, 1]) + EACH_CALL)
        self.assertEqual(answers(calls), answers(calls))

    def test_nothing_is_kept_from_one_time_to_the_next(self):
        answers(written(built([10, 4])))
        self.assertEqual(answers([5]), [1, -11])
        self.assertEqual(answers([0, 5]), [1, 0, 1, 0])

    def test_whole_numbers_are_given_back(self):
        given = answers(written(built([10, 4], [0], [5, 5]) + EACH_CALL))
        self.assertIs(type(given), list)
        for number in given:
            self.assertIs(type(number), int)

    def test_nothing_is_printed(self):
        printed = io.StringIO()
        with contextlib.redirect_stdout(printed), contextlib.redirect_stderr(printed):
            answers(written(built([10, 4]) + EACH_CALL + [("operate", 9)]))
        self.assertEqual(printed.getvalue(), "")

    def test_two_hundred_calls(self):
        pipes = built([100, 77, 31, 3], [90, 61, 30, 2], [99, 50, 50, 1])
        days = [("operate", number % 4) for number in range(194)]
        calls = pipes + days + [("ages",), ("output_if", 0)]
        self.assertEqual(len(calls), 200)
        self.assertEqual(ask(*calls)[-2:], [[3, 0, 3, 2], [100 + 2 + 50]])


class AheadOfCreate(unittest.TestCase):
    def test_every_other_call_is_refused(self):
        for call in EACH_CALL:
            with self.subTest(call=call):
                self.assertEqual(ask(call), [[-11]])

    def test_it_is_checked_ahead_of_the_arguments(self):
        wrong = [
            ("add_pipe", []),
            ("add_pipe", [101]),
            ("remove_pipe", GREATEST),
            ("operate", GREATEST),
            ("operate_days", [GREATEST]),
            ("operate_days", [0] * 21),
            ("output_if", 1),
            ("best_total", 9),
            ("best_choice", 0),
        ]
        for call in wrong:
            with self.subTest(call=call):
                self.assertEqual(ask(call), [[-11]])

    def test_it_leaves_the_instance_new(self):
        for call in EACH_CALL:
            with self.subTest(call=call):
                self.assertEqual(ask(call, ("ages",), ("create",), ("ages",)), [[-11], [-11], [0], [0]])


class RefusedCalls(unittest.TestCase):
    def test_they_leave_the_state_as_it_was(self):
        pipes = built([10, 4], [9, 8, 1], [7])
        start = pipes + [("operate_days", [0, 0, 1])]
        looks = [("ages",), ("output_if", 0), ("output_if", 2), ("best_total", 8), ("best_choice", 8), ("best_mean",)]
        refused = [
            (("add_pipe", []), -22),
            (("add_pipe", [1, 2]), -22),
            (("add_pipe", [5]), -28),
            (("remove_pipe", 3), -2),
            (("operate", 4), -2),
            (("operate_days", [1, 2, 4]), -2),
            (("operate_days", [1] * 21), -22),
            (("output_if", 4), -2),
            (("best_total", 9), -22),
            (("best_choice", 0), -22),
            (("best_choice", 9), -22),
        ]
        before = ask(*start, *looks)[len(start):]
        self.assertEqual(before[0], [3, 0, 2, 0])
        for call, code in refused:
            with self.subTest(call=call):
                parts = ask(*start, call, *looks)[len(start):]
                self.assertEqual(parts[0], [code])
                self.assertEqual(parts[1:], before)

    def test_a_refused_mean_leaves_the_state_as_it_was(self):
        self.assertEqual(ask(("create",), ("best_mean",), ("ages",), ("add_pipe", [3])), [[0], [-6], [0], [0]])

    def test_calls_that_only_look_leave_the_state_as_it_was(self):
        start = built([10, 4], [9, 8, 1]) + [("operate_days", [0, 1])]
        for call in EACH_CALL[4:]:
            with self.subTest(call=call):
                self.assertEqual(last(*start, call, call, ("ages",)), [2, 0, 2])


if __name__ == "__main__":
    unittest.main()
