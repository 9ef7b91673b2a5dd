"""cycle_mean and attains_best_mean: choices that come back to the same state, and such as don't."""

import unittest
from fractions import Fraction

from tests.calling import (
    GREATEST, LARGE, PAIRS, SMALL, all_choices, all_states, as_answered, ask, built, followed, last, means_of_cycles,
)

# Days ahead of the question, so that cycles are asked for from several states.
PASTS = [[], [0], [0, 0, 0, 0], [1, 0], [1]]


def cycles_and_others(pipes, past, days):
    """Return, for every list of so many choices, the choices and the mean of their cycle, or None."""
    state = followed(pipes, (0,) * len(pipes), past)[1]
    found = []
    for choices in all_choices(pipes, days):
        total, after = followed(pipes, state, choices)
        found.append((list(choices), Fraction(total, days) if after == state else None))
    return found


def cases(groups):
    """Return pipes, past days, choices and mean of many cases, a mean of None where there is no cycle."""
    found = []
    for pipes in groups:
        for past in PASTS if pipes else [[], [0]]:
            for days in range(1, 5):
                for choices, mean in cycles_and_others(pipes, past, days):
                    found.append((pipes, past, choices, mean))
    return found


class CycleMean(unittest.TestCase):
    def test_all_choices_of_some_days(self):
        seen = {"cycle": 0, "none": 0}
        for pipes, past, choices, mean in cases(SMALL):
            seen["none" if mean is None else "cycle"] += 1
            with self.subTest(pipes=pipes, past=past, choices=choices):
                expected = [-33] if mean is None else as_answered(mean)
                self.assertEqual(last(*built(*pipes), ("operate_days", past), ("cycle_mean", choices)), expected)
        self.assertGreater(min(seen.values()), 100)

    def test_it_starts_in_the_current_state(self):
        young = built([10, 4])
        old = young + [("operate", 0)]
        for choices, from_young, from_old in (
            ([0], [-33], [0, 4, 1]),
            ([1], [0, 0, 1], [-33]),
            ([0, 1], [0, 5, 1], [-33]),
            ([1, 0], [-33], [0, 5, 1]),
            ([0, 0, 1], [0, 14, 3], [-33]),
        ):
            with self.subTest(choices=choices):
                self.assertEqual(last(*young, ("cycle_mean", choices)), from_young)
                self.assertEqual(last(*old, ("cycle_mean", choices)), from_old)

    def test_several_pipes(self):
        start = built([10, 4], [9, 6, 1], [7]) + [("operate_days", [1, 2])]
        self.assertEqual(last(*start, ("ages",)), [3, 1, 0, 0])
        self.assertEqual(last(*start, ("cycle_mean", [1, 2])), [0, (9 + 7) + (10 + 7), 2])
        self.assertEqual(last(*start, ("cycle_mean", [2, 1])), [-33])
        self.assertEqual(last(*start, ("cycle_mean", [1])), [-33])

    def test_it_stands_in_lowest_terms(self):
        start = built([10, 4])
        self.assertEqual(last(*start, ("cycle_mean", [0, 1] * 10)), [0, 5, 1])
        self.assertEqual(last(*start, ("cycle_mean", [0, 0, 0, 1])), [0, 9, 2])
        self.assertEqual(last(*built([9, 9]), ("cycle_mean", [0, 0, 0, 0, 0, 1] * 3)), [0, 15, 2])

    def test_zero_is_0_1(self):
        for pipes, choices in (([], [0, 0, 0]), ([[0]], [0, 0]), ([[0, 0]], [0, 1]), ([[10, 4]], [1, 1, 1])):
            with self.subTest(pipes=pipes, choices=choices):
                self.assertEqual(last(*built(*pipes), ("cycle_mean", choices)), [0, 0, 1])

    def test_a_pipe_with_one_output_has_one_state(self):
        self.assertEqual(last(*built([7]), ("cycle_mean", [0])), [0, 7, 1])
        self.assertEqual(last(*built([7]), ("cycle_mean", [1])), [0, 0, 1])
        self.assertEqual(last(*built([7]), ("cycle_mean", [0, 1, 0])), [0, 14, 3])

    def test_without_pipes(self):
        self.assertEqual(last(("create",), ("cycle_mean", [0])), [0, 0, 1])
        self.assertEqual(last(("create",), ("cycle_mean", [0] * 20)), [0, 0, 1])
        self.assertEqual(last(("create",), ("cycle_mean", [1])), [-2])
        self.assertEqual(last(("create",), ("cycle_mean", [])), [-22])

    def test_one_to_twenty_choices(self):
        start = built([10, 4])
        # Each of these ends where it begins, so that only their number can be wrong.
        for count, expected in ((1, [0, 0, 1]), (2, [0, 5, 1]), (19, [0, 78, 19]), (20, [0, 41, 10])):
            with self.subTest(count=count):
                self.assertEqual(last(*start, ("cycle_mean", [0] * (count - 1) + [1])), expected)
        for count in (0, 21, 22, 60):
            with self.subTest(count=count):
                self.assertEqual(last(*start, ("cycle_mean", ([0] * 60 + [1])[61 - count:])), [-22])

    def test_there_is_no_such_choice(self):
        for pipes in ([], [[10, 4]], [[5], [4]], [[5], [4], [3]]):
            wrong = len(pipes) + 1
            for choices in ([wrong], [0, wrong], [wrong, 0], [GREATEST], [0] * 19 + [wrong]):
                with self.subTest(pipes=pipes, choices=choices):
                    self.assertEqual(last(*built(*pipes), ("cycle_mean", choices)), [-2])

    def test_the_last_pipe_is_a_choice(self):
        for pipes in ([[5]], [[5], [4]], [[5], [4], [3]]):
            with self.subTest(pipes=pipes):
                expected = [0, sum(outputs[0] for outputs in pipes[:-1]), 1]
                self.assertEqual(last(*built(*pipes), ("cycle_mean", [len(pipes)])), expected)

    def test_the_order_of_two_errors(self):
        start = built([10, 4])
        for choices in ([2] + [0] * 20, [0] * 20 + [2], [0] * 59 + [GREATEST]):
            with self.subTest(choices=choices):
                self.assertEqual(last(*start, ("cycle_mean", choices)), [-2])
        # No cycle either: -2 ahead of -33, and -22 ahead of -33.
        self.assertEqual(last(*start, ("cycle_mean", [0, 2])), [-2])
        self.assertEqual(last(*start, ("cycle_mean", [0] * 21)), [-22])


class AttainsBestMean(unittest.TestCase):
    def test_all_choices_of_some_days(self):
        groups = [pipes for pipes in SMALL[1:] if len(all_states(pipes)) <= 9]
        best = {str(pipes): max(means_of_cycles(pipes)) for pipes in groups}
        seen = [0, 0]
        for pipes, past, choices, mean in cases(groups):
            expected = 1 if mean == best[str(pipes)] else 0
            seen[expected] += 1
            with self.subTest(pipes=pipes, past=past, choices=choices):
                start = built(*pipes) + [("operate_days", past)]
                self.assertEqual(last(*start, ("attains_best_mean", choices)), [expected])
        self.assertGreater(min(seen), 40)

    def test_it_agrees_with_the_two_means(self):
        for pipes in PAIRS + LARGE:
            start = built(*pipes) + [("operate_days", [0, 1, 2])]
            for choices in ([0], [1, 2], [0, 1, 2], [1, 0, 2], [0, 0, 0], [0, 0, 1, 2], [1, 2] * 5, [0, 1, 2] * 6):
                with self.subTest(pipes=pipes, choices=choices):
                    mean, best, attains = ask(
                        *start, ("cycle_mean", choices), ("best_mean",), ("attains_best_mean", choices))[-3:]
                    self.assertEqual(attains, [1 if mean == best else 0])

    def test_the_best_cycle_once_and_more_often(self):
        start = built([10, 4])
        for times in range(1, 11):
            with self.subTest(times=times):
                self.assertEqual(last(*start, ("attains_best_mean", [0, 1] * times)), [1])
        for times in range(9):
            with self.subTest(times=times, then="a lesser one"):
                self.assertEqual(last(*start, ("attains_best_mean", [0, 1] * times + [0, 0, 1])), [0])

    def test_it_starts_in_the_current_state(self):
        young = built([10, 4])
        old = young + [("operate", 0)]
        for choices, from_young, from_old in (([0, 1], 1, 0), ([1, 0], 0, 1), ([0], 0, 0), ([1], 0, 0)):
            with self.subTest(choices=choices):
                self.assertEqual(last(*young, ("attains_best_mean", choices)), [from_young])
                self.assertEqual(last(*old, ("attains_best_mean", choices)), [from_old])

    def test_the_best_mean_without_a_cycle_is_not_enough(self):
        # Each day has the best mean, 5, but the age is another behind it.
        self.assertEqual(last(*built([5, 5]), ("attains_best_mean", [0])), [0])
        self.assertEqual(last(*built([5, 5]), ("operate", 0), ("attains_best_mean", [0])), [1])
        # More than the best mean, as the first days are better than any to come.
        self.assertEqual(last(*built([10, 4]), ("attains_best_mean", [0])), [0])

    def test_a_pipe_with_one_output(self):
        start = built([7])
        for choices, expected in (([0], 1), ([0] * 20, 1), ([1], 0), ([0, 1], 0)):
            with self.subTest(choices=choices):
                self.assertEqual(last(*start, ("attains_best_mean", choices)), [expected])

    def test_pipes_without_output(self):
        start = built([0, 0], [0])
        for choices, expected in (([1], 1), ([0, 1], 1), ([2], 0), ([0], 0), ([2, 2, 1], 1)):
            with self.subTest(choices=choices):
                self.assertEqual(last(*start, ("attains_best_mean", choices)), [expected])

    def test_several_pipes(self):
        start = built([10, 0], [10, 0]) + [("operate_days", [1, 2])]
        for choices, expected in (([1, 2], 1), ([1, 2] * 10, 1), ([2, 1], 0), ([0, 1, 2], 0), ([1, 1, 2], 0)):
            with self.subTest(choices=choices):
                self.assertEqual(last(*start, ("attains_best_mean", choices)), [expected])

    def test_one_to_twenty_choices(self):
        for pipes in ([[7]], [[10, 4], [9, 1]]):
            start = built(*pipes)
            for count in (1, 20):
                with self.subTest(pipes=pipes, count=count):
                    self.assertIn(last(*start, ("attains_best_mean", [0] * count)), ([0], [1]))
            for count in (0, 21, 60):
                with self.subTest(pipes=pipes, count=count):
                    self.assertEqual(last(*start, ("attains_best_mean", [0] * count)), [-22])

    def test_there_is_no_such_choice(self):
        for pipes in ([[10, 4]], [[5], [4]], [[5], [4], [3]]):
            wrong = len(pipes) + 1
            for choices in ([wrong], [0, wrong], [wrong, 0], [GREATEST], [0] * 19 + [wrong]):
                with self.subTest(pipes=pipes, choices=choices):
                    self.assertEqual(last(*built(*pipes), ("attains_best_mean", choices)), [-2])

    def test_without_pipes(self):
        for choices in ([0], [0] * 20):
            with self.subTest(choices=choices):
                self.assertEqual(last(("create",), ("attains_best_mean", choices)), [-6])

    def test_the_order_of_two_errors(self):
        start = built([10, 4])
        for choices in ([2] + [0] * 20, [0] * 20 + [2], [0] * 59 + [GREATEST]):
            with self.subTest(choices=choices):
                self.assertEqual(last(*start, ("attains_best_mean", choices)), [-2])
        # Without pipes: -2 ahead of -6, -22 ahead of -6, and -2 ahead of both.
        for choices, code in (([1], -2), ([], -22), ([0] * 21, -22), ([0] * 20 + [1], -2)):
            with self.subTest(choices=choices):
                self.assertEqual(last(("create",), ("attains_best_mean", choices)), [code])


if __name__ == "__main__":
    unittest.main()
