"""clean_all, most_degraded, count_states and summary."""

import unittest

from tests.calling import LARGE, SMALL, all_choices, all_states, ask, built, followed, last


class CleanAll(unittest.TestCase):
    def test_it_answers_how_many_pipes_there_are(self):
        for count in range(4):
            with self.subTest(count=count):
                self.assertEqual(last(*built(*[[5, 1]] * count), ("clean_all",)), [count])

    def test_all_ages_are_0_behind_it(self):
        for past in ([], [0], [0] * 20, [1, 2, 3], [3, 0, 1]):
            calls = built([9, 8, 7, 6], [5, 4], [3]) + [("operate_days", past), ("clean_all",), ("ages",)]
            with self.subTest(past=past):
                self.assertEqual(ask(*calls)[-2:], [[3], [3, 0, 0, 0]])

    def test_no_day_passes(self):
        start = built([9, 8, 7, 6], [5, 4]) + [("operate_days", [0, 0, 1])]
        self.assertEqual(last(*start, ("summary",)), [2, 3, 14 + 12 + 4, 0, 1])
        self.assertEqual(last(*start, ("clean_all",), ("summary",)), [2, 3, 30, 0, 0])
        self.assertEqual(last(*start, ("clean_all",), ("clean_all",), ("summary",)), [2, 3, 30, 0, 0])

    def test_the_days_behind_it_begin_with_the_first_outputs(self):
        calls = built([9, 8, 7, 6], [5, 4]) + [("operate_days", [0, 0, 1]), ("clean_all",)] + [("operate", 0)] * 3
        self.assertEqual(ask(*calls)[-3:], [[14], [12], [11]])

    def test_without_pipes(self):
        self.assertEqual(ask(("create",), ("clean_all",), ("summary",))[-2:], [[0], [0, 0, 0]])


class MostDegraded(unittest.TestCase):
    def test_every_three_days(self):
        for pipes in SMALL[1:] + LARGE:
            for past in all_choices(pipes, 3):
                state = followed(pipes, (0,) * len(pipes), past)[1]
                losses = [outputs[0] - outputs[age] for outputs, age in zip(pipes, state)]
                # The first of the greatest, by asking each pipe about those ahead of it and behind it.
                expected = [
                    pipe for pipe, loss in enumerate(losses)
                    if all(loss > other for other in losses[:pipe]) and all(loss >= other for other in losses[pipe:])
                ]
                with self.subTest(pipes=pipes, past=past):
                    start = built(*pipes) + [("operate_days", list(past))]
                    self.assertEqual(last(*start, ("most_degraded",)), expected)

    def test_each_pipe_can_be_it(self):
        for number in range(3):
            pipes = [[10, 9]] * 3
            pipes[number] = [10, 1]
            with self.subTest(number=number):
                self.assertEqual(last(*built(*pipes), ("operate", 0), ("most_degraded",)), [number])

    def test_the_loss_counts_and_not_the_output_or_the_age(self):
        # The first has the greater output now, the second the smaller, the third the greater age.
        start = built([100, 90], [5, 0], [7, 7, 7, 7]) + [("operate_days", [0, 0, 0])]
        self.assertEqual(ask(*start, ("ages",), ("most_degraded",))[-2:], [[3, 1, 1, 3], [0]])

    def test_it_is_set_against_the_current_age_and_not_the_last(self):
        start = built([10, 9, 0], [10, 8, 8])
        for past, expected in (([0], 1), ([0, 0], 0), ([0, 0, 1], 1), ([0, 0, 2], 0)):
            with self.subTest(past=past):
                self.assertEqual(last(*start, ("operate_days", past), ("most_degraded",)), [expected])

    def test_ties_go_to_the_lower_number(self):
        self.assertEqual(last(*built([10, 4], [9, 3], [8, 2]), ("most_degraded",)), [0])
        self.assertEqual(last(*built([10, 4], [9, 3], [8, 2]), ("operate", 0), ("most_degraded",)), [0])
        self.assertEqual(last(*built([10, 4], [9, 3], [8, 2]), ("operate", 1), ("most_degraded",)), [1])
        self.assertEqual(last(*built([10, 9], [9, 3], [8, 2]), ("operate", 0), ("most_degraded",)), [1])
        self.assertEqual(last(*built([5], [5], [5]), ("operate", 0), ("most_degraded",)), [0])

    def test_one_pipe(self):
        for outputs in ([0], [10, 4], [10, 4, 3, 0]):
            with self.subTest(outputs=outputs):
                self.assertEqual(ask(*built(outputs), ("most_degraded",), ("operate", 0), ("most_degraded",))[2:], [
                    [0], [outputs[0]], [0]])

    def test_without_pipes(self):
        self.assertEqual(last(("create",), ("most_degraded",)), [-6])
        self.assertEqual(last(*built([5]), ("remove_pipe", 0), ("most_degraded",)), [-6])


class CountStates(unittest.TestCase):
    def test_there_is_one_for_every_combination_of_ages(self):
        for pipes in SMALL + LARGE:
            with self.subTest(pipes=pipes):
                self.assertEqual(last(*built(*pipes), ("count_states",)), [len(all_states(pipes))])

    def test_known_counts(self):
        for counts, expected in (
            ([], 1), ([1], 1), ([2], 2), ([4], 4), ([1, 1, 1], 1), ([2, 3], 6), ([4, 4], 16), ([2, 3, 4], 24),
            ([4, 4, 4], 64),
        ):
            with self.subTest(counts=counts):
                pipes = [[5] * count for count in counts]
                self.assertEqual(last(*built(*pipes), ("count_states",)), [expected])

    def test_it_follows_the_pipes_and_not_the_days(self):
        start = built([5, 5], [4, 4, 4]) + [("operate_days", [0, 1, 2]), ("count_states",)]
        self.assertEqual(ask(*start, ("remove_pipe", 0), ("count_states",), ("create",), ("count_states",))[-5:], [
            [6], [1], [3], [0], [1]])


class Summary(unittest.TestCase):
    def test_a_new_instance(self):
        self.assertEqual(last(("create",), ("summary",)), [0, 0, 0])
        self.assertEqual(last(*built([10, 4]), ("summary",)), [1, 0, 0, 0])
        self.assertEqual(last(*built([10, 4], [7], [6]), ("summary",)), [3, 0, 0, 0, 0, 0])

    def test_behind_any_days(self):
        for pipes in SMALL + LARGE[:1]:
            for choices in all_choices(pipes, 3):
                total, state = followed(pipes, (0,) * len(pipes), choices)
                expected = [len(pipes), 3, total] + list(state)
                with self.subTest(pipes=pipes, choices=choices):
                    by_one = [("operate", choice) for choice in choices]
                    self.assertEqual(last(*built(*pipes), *by_one, ("summary",)), expected)
                    at_once = ("operate_days", list(choices))
                    self.assertEqual(last(*built(*pipes), at_once, ("summary",)), expected)

    def test_days_one_by_one_and_several_add_up(self):
        start = built([10, 4], [7, 3])
        steps = [
            (("operate", 0), [2, 1, 17, 1, 1]),
            (("operate_days", [1, 0]), [2, 3, 17 + 3 + 13, 1, 1]),
            (("operate_days", []), [2, 3, 33, 1, 1]),
            (("operate", 2), [2, 4, 37, 1, 0]),
            (("operate_days", [0] * 20), [2, 24, 37 + 11 + 19 * 7, 1, 1]),
        ]
        for call, expected in steps:
            start.append(call)
            with self.subTest(call=call):
                self.assertEqual(last(*start, ("summary",)), expected)

    def test_days_without_pipes_are_days(self):
        self.assertEqual(last(("create",), ("operate", 0), ("operate_days", [0, 0]), ("summary",)), [0, 3, 0])

    def test_adding_a_pipe_changes_nothing_past(self):
        start = built([10, 4]) + [("operate_days", [0, 0])]
        self.assertEqual(last(*start, ("add_pipe", [9, 9]), ("summary",)), [2, 2, 14, 1, 0])

    def test_removing_a_pipe_changes_nothing_past(self):
        start = built([10, 4, 1], [7, 3]) + [("operate_days", [0, 0, 2])]
        self.assertEqual(last(*start, ("summary",)), [2, 3, 17 + 7 + 1, 2, 0])
        self.assertEqual(last(*start, ("remove_pipe", 0), ("summary",)), [1, 3, 25, 0])
        self.assertEqual(last(*start, ("remove_pipe", 1), ("summary",)), [1, 3, 25, 2])
        self.assertEqual(last(*start, ("remove_pipe", 1), ("remove_pipe", 0), ("summary",)), [0, 3, 25])
        self.assertEqual(last(*start, ("remove_pipe", 0), ("operate", 0), ("summary",)), [1, 4, 32, 1])

    def test_a_second_create_forgets_the_past(self):
        start = built([10, 4], [7]) + [("operate_days", [0, 0]), ("create",)]
        self.assertEqual(last(*start, ("summary",)), [0, 0, 0])
        self.assertEqual(last(*start, ("add_pipe", [8, 1]), ("operate", 0), ("summary",)), [1, 1, 8, 1])

    def test_its_numbers_stand_where_the_signature_says(self):
        # All six differ.
        start = built([50, 40, 30, 20], [9, 5, 0], [1, 0]) + [("operate_days", [0, 0, 0, 2, 3])]
        self.assertEqual(last(*start, ("summary",)), [3, 5, 60 + 45 + 30 + 20 + 29, 3, 1, 0])


if __name__ == "__main__":
    unittest.main()
