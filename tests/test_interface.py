"""The list that is handed in, the list that is given back, and what holds for every call."""

import contextlib
import io
import time
import unittest

from pipecrew.desk import answers
from tests.calling import GREATEST, ask, built, written

# One call of each kind but create, with arguments that are in range behind built([10, 4]).
CHANGING = [
    ("add_pipe", [7, 3]),
    ("remove_pipe", 0),
    ("operate", 0),
    ("operate_days", [0, 1]),
    ("clean_all",),
]
LOOKING = [
    ("ages",),
    ("output_if", 0),
    ("best_total", 3),
    ("best_choice", 3),
    ("best_mean",),
    ("cycle_mean", [0, 1]),
    ("attains_best_mean", [0, 1]),
    ("proves_bound", 5, 1, [5, 0]),
    ("mean_with_interval", 0, 2),
    ("best_mean_alone", 0),
    ("output_without_cleaning",),
    ("most_degraded",),
    ("count_states",),
    ("summary",),
]
EACH_CALL = CHANGING + LOOKING

# Calls with arguments that are refused behind built([10, 4], [9, 8, 1], [7]), and their codes.
REFUSED = [
    (("add_pipe", []), -22),
    (("add_pipe", [1, 2]), -22),
    (("add_pipe", [101]), -22),
    (("add_pipe", [5]), -28),
    (("remove_pipe", 3), -2),
    (("operate", 4), -2),
    (("operate_days", [1, 2, 4]), -2),
    (("operate_days", [1] * 21), -22),
    (("output_if", 4), -2),
    (("best_total", 9), -22),
    (("best_choice", 0), -22),
    (("best_choice", 9), -22),
    (("cycle_mean", [1, 2, 4]), -2),
    (("cycle_mean", []), -22),
    (("cycle_mean", [1] * 21), -22),
    (("cycle_mean", [1, 2, 3]), -33),
    (("attains_best_mean", [1, 2, 4]), -2),
    (("attains_best_mean", []), -22),
    (("attains_best_mean", [1] * 21), -22),
    (("proves_bound", 5, 0, [5, 0]), -22),
    (("proves_bound", 100001, 1, [5, 0]), -22),
    (("proves_bound", 5, 1, [5, -10001]), -22),
    (("mean_with_interval", 3, 2), -2),
    (("mean_with_interval", 0, 0), -22),
    (("mean_with_interval", 0, 21), -22),
    (("best_mean_alone", 3), -2),
]
# Calls that need pipes, and whose arguments are in range without pipes.
NEEDING_PIPES = [
    ("best_mean",),
    ("attains_best_mean", [0]),
    ("proves_bound", 5, 1, [0]),
    ("most_degraded",),
]
# What can be asked about the state, from every side.
LOOKS = [
    ("summary",), ("ages",), ("output_if", 0), ("output_if", 1), ("best_total", 8), ("best_choice", 8),
    ("output_without_cleaning",), ("count_states",),
]


class Lists(unittest.TestCase):
    def test_the_documents_example(self):
        session = [
            ([0], [0]),
            ([1, 2, 10, 4], [0]),
            ([3, 0], [10]),
            ([6, 0], [4]),
            ([7, 3], [14]),
            ([9], [0, 5, 1]),
            ([3, 1], [0]),
            ([10, 2, 0, 1], [0, 5, 1]),
            ([12, 5, 1, 2, 5, 0], [1]),
            ([10, 1, 0], [-33]),
        ]
        calls = []
        expected = []
        for call, answered in session:
            calls.extend(call)
            expected.extend([len(answered)] + answered)
        self.assertEqual(answers(calls), expected)

    def test_each_answer_stands_behind_its_count(self):
        self.assertEqual(answers([0]), [1, 0])
        self.assertEqual(answers([5]), [1, -11])
        self.assertEqual(answers([0, 5]), [1, 0, 1, 0])
        self.assertEqual(answers([0, 1, 1, 9, 1, 2, 8, 7, 5]), [1, 0, 1, 0, 1, 1, 3, 2, 0, 0])
        self.assertEqual(answers([0, 1, 1, 9, 3, 0, 19]), [1, 0, 1, 0, 1, 9, 4, 1, 1, 9, 0])
        self.assertEqual(answers([0, 1, 2, 9, 2, 13, 0, 4, 14, 0]), [1, 0, 1, 0, 3, 0, 13, 4, 3, 0, 9, 2])

    def test_each_call_is_read_to_its_end(self):
        for call in EACH_CALL:
            with self.subTest(call=call):
                # Were it read too far or not far enough, the calls behind it would go wrong.
                parts = ask(("create",), ("add_pipe", [10, 4]), call, ("create",), ("add_pipe", [8]), ("summary",))
                self.assertEqual(parts[3:], [[0], [0], [1, 0, 0, 0]])

    def test_empty_list_arguments_are_read(self):
        self.assertEqual(answers([0, 1, 0, 4, 0, 5]), [1, 0, 1, -22, 1, 0, 1, 0])
        calls = [0, 1, 1, 9, 10, 0, 11, 0, 12, 9, 1, 0, 5]
        self.assertEqual(answers(calls), [1, 0, 1, 0, 1, -22, 1, -22, 1, 0, 2, 1, 0])

    def test_refused_calls_are_read_to_their_end(self):
        for ahead in ([1], [4], [10], [11], [12, GREATEST, GREATEST]):
            for count in (0, 5, 21, 60):
                calls = ahead + [count] + [GREATEST] * count + [0, 5]
                self.assertEqual(answers(calls), [1, -11, 1, 0, 1, 0])
        calls = [2, 0, 3, 0, 6, 0, 7, 0, 8, 0, 9, 13, 0, 0, 14, 0, 15, 16, 17, 18, 19, 0]
        self.assertEqual(answers(calls), [1, -11] * 13 + [1, 0])

    def test_potentials_below_0_are_read(self):
        calls = [0, 1, 2, 10, 4, 12, 5, 1, 2, 2, -3, 12, 5, 1, 2, -3, 2, 12, 5, 1, 2, -2147483648, 2147483647, 5]
        self.assertEqual(answers(calls), [1, 0, 1, 0, 1, 1, 1, 0, 1, -22, 2, 1, 0])

    def test_what_is_handed_in_stays_the_same(self):
        calls = written(built([10, 4], [9, 9, 1]) + EACH_CALL)
        before = list(calls)
        answers(calls)
        self.assertEqual(calls, before)

    def test_nothing_is_changed_for_a_while_either(self):
        class Fixed(list):
            def refuse(self, *arguments):
                raise AssertionError("changed")

            __setitem__ = __delitem__ = __iadd__ = __imul__ = refuse
            append = clear = extend = insert = pop = remove = reverse = sort = refuse

        calls = written(built([10, 4], [9, 9, 1]) + EACH_CALL)
        self.assertEqual(answers(Fixed(calls)), answers(calls))

    def test_what_is_given_back_is_the_callers(self):
        calls = written(built([10, 4]) + EACH_CALL)
        first = answers(calls)
        kept = list(first)
        first.clear()
        self.assertEqual(answers(calls), kept)

    def test_the_same_calls_give_the_same_again(self):
        calls = written(built([10, 4], [9, 9, 1]) + EACH_CALL)
        self.assertEqual(answers(calls), answers(calls))

    def test_nothing_is_kept_from_one_time_to_the_next(self):
        answers(written(built([10, 4])))
        self.assertEqual(answers([5]), [1, -11])
        self.assertEqual(answers([0, 5]), [1, 0, 1, 0])

    def test_whole_numbers_are_given_back(self):
        given = answers(written(built([10, 4], [0], [5, 5]) + EACH_CALL))
        self.assertIs(type(given), list)
        for number in given:
            self.assertIs(type(number), int)

    def test_nothing_is_printed(self):
        printed = io.StringIO()
        with contextlib.redirect_stdout(printed), contextlib.redirect_stderr(printed):
            answers(written(built([10, 4]) + EACH_CALL + [("operate", 9)]))
        self.assertEqual(printed.getvalue(), "")

    def test_two_hundred_calls(self):
        pipes = built([100, 77, 31, 3], [90, 61, 30, 2], [99, 50, 50, 1])
        days = [("operate", number % 4) for number in range(194)]
        calls = pipes + days + [("ages",), ("output_if", 0)]
        self.assertEqual(len(calls), 200)
        self.assertEqual(ask(*calls)[-2:], [[3, 0, 3, 2], [100 + 2 + 50]])


class Speed(unittest.TestCase):
    def test_two_hundred_calls_on_three_pipes_end_in_a_few_seconds(self):
        pipes = built([100, 77, 31, 3], [90, 61, 30, 2], [99, 50, 50, 1])
        # From these ages on the choices are a cycle, so that its mean is set against the best.
        start = pipes + [("operate_days", [1, 2, 3])]
        long_calls = [
            ("best_total", 8), ("best_choice", 8), ("best_mean",), ("cycle_mean", [1, 2, 3] * 6),
            ("attains_best_mean", [1, 2, 3] * 6), ("proves_bound", 5, 1, [0] * 60), ("mean_with_interval", 2, 20),
            ("best_mean_alone", 2), ("count_states",), ("summary",),
        ]
        mixed = [long_calls[number % len(long_calls)] for number in range(195)]
        for each in [mixed] + [[call] * 195 for call in long_calls]:
            with self.subTest(call=each[0], last=each[-1]):
                begun = time.process_time()
                parts = ask(*start, *each)
                self.assertLess(time.process_time() - begun, 5)
                self.assertEqual(len(parts), 200)


class AheadOfCreate(unittest.TestCase):
    def test_every_other_call_is_refused(self):
        for call in EACH_CALL:
            with self.subTest(call=call):
                self.assertEqual(ask(call), [[-11]])

    def test_it_is_checked_ahead_of_the_arguments(self):
        for call, code in REFUSED:
            with self.subTest(call=call, code=code):
                self.assertEqual(ask(call), [[-11]])

    def test_it_is_checked_ahead_of_there_being_no_pipes(self):
        for call in NEEDING_PIPES:
            with self.subTest(call=call):
                self.assertEqual(ask(call), [[-11]])

    def test_it_leaves_the_instance_new(self):
        for call in EACH_CALL:
            with self.subTest(call=call):
                parts = ask(call, ("summary",), ("create",), ("summary",))
                self.assertEqual(parts, [[-11], [-11], [0], [0, 0, 0]])


class StateKept(unittest.TestCase):
    def setUp(self):
        self.start = built([10, 4], [9, 8, 1], [7]) + [("operate_days", [0, 0, 1])]
        self.before = ask(*self.start, *LOOKS)[len(self.start):]

    def test_the_state_before(self):
        self.assertEqual(self.before[:2], [[3, 3, 26 + 19 + 8, 0, 2, 0], [3, 0, 2, 0]])

    def test_refused_calls_leave_the_state_as_it_was(self):
        for call, code in REFUSED:
            with self.subTest(call=call):
                parts = ask(*self.start, call, *LOOKS)[len(self.start):]
                self.assertEqual(parts, [[code]] + self.before)

    def test_calls_that_need_pipes_leave_the_state_as_it_was(self):
        start = [("create",), ("operate", 0)]
        for call in NEEDING_PIPES:
            with self.subTest(call=call):
                self.assertEqual(ask(*start, call, ("summary",), ("add_pipe", [3]))[2:], [[-6], [0, 1, 0], [0]])

    def test_calls_that_only_look_leave_the_state_as_it_was(self):
        for call in LOOKING:
            with self.subTest(call=call):
                parts = ask(*self.start, call, call, *LOOKS)[len(self.start):]
                self.assertEqual(parts[0], parts[1])
                self.assertEqual(parts[2:], self.before)

    def test_choices_that_are_only_looked_at_let_no_day_pass(self):
        for name in ("cycle_mean", "attains_best_mean"):
            for choices in ([0], [1], [1, 2], [0, 0, 1], [1] * 20, [0] * 20):
                with self.subTest(name=name, choices=choices):
                    parts = ask(*self.start, (name, choices), *LOOKS)[len(self.start):]
                    self.assertEqual(parts[1:], self.before)


if __name__ == "__main__":
    unittest.main()
