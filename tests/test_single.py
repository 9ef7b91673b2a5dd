"""mean_with_interval, best_mean_alone and output_without_cleaning."""

import unittest
from fractions import Fraction

from tests.calling import GREATEST, LARGE, SMALL, as_answered, ask, built, last, means_of_cycles

PIPES = [
    (0,), (7,), (100,), (10, 4), (0, 0), (100, 0), (5, 5), (9, 6, 2), (7, 7, 0), (10, 10, 0, 0), (9, 9, 9, 9),
    (100, 99, 1, 0), (8, 7, 3, 0), (4, 3, 2, 1),
]


def mean_by_days(outputs, interval):
    """Return the mean of a pipe that is cleaned every so many days, by going through the days."""
    total = 0
    age = 0
    for number in range(interval - 1):
        total += outputs[age]
        age = min(age + 1, len(outputs) - 1)
    return Fraction(total, interval)


class MeanWithInterval(unittest.TestCase):
    def test_every_interval(self):
        for outputs in PIPES:
            for interval in range(1, 21):
                with self.subTest(outputs=outputs, interval=interval):
                    expected = as_answered(mean_by_days(outputs, interval))
                    self.assertEqual(last(*built(outputs), ("mean_with_interval", 0, interval)), expected)

    def test_it_is_the_mean_of_the_cycle(self):
        for outputs in PIPES:
            for interval in range(1, 21):
                with self.subTest(outputs=outputs, interval=interval):
                    asked = [("mean_with_interval", 0, interval), ("cycle_mean", [0] * (interval - 1) + [1])]
                    mean, cycle = ask(*built(outputs), *asked)[-2:]
                    self.assertEqual(mean, cycle)

    def test_known_means(self):
        start = built([10, 4])
        for interval, expected in (
            (1, [0, 0, 1]), (2, [0, 5, 1]), (3, [0, 14, 3]), (4, [0, 9, 2]), (5, [0, 22, 5]), (20, [0, 41, 10]),
        ):
            with self.subTest(interval=interval):
                self.assertEqual(last(*start, ("mean_with_interval", 0, interval)), expected)

    def test_the_interval_at_its_bounds_and_beyond(self):
        start = built([7])
        for interval, expected in (
            (0, [-22]), (1, [0, 0, 1]), (2, [0, 7, 2]), (20, [0, 133, 20]), (21, [-22]), (GREATEST, [-22]),
        ):
            with self.subTest(interval=interval):
                self.assertEqual(last(*start, ("mean_with_interval", 0, interval)), expected)

    def test_it_is_of_this_pipe_alone_whatever_its_age(self):
        start = built([10, 4], [7], [9, 9, 1])
        for past in ([], [0, 0], [1, 2, 3]):
            asked = [("mean_with_interval", pipe, 3) for pipe in range(3)]
            with self.subTest(past=past):
                parts = ask(*start, ("operate_days", past), *asked)[-3:]
                self.assertEqual(parts, [[0, 14, 3], [0, 14, 3], [0, 6, 1]])

    def test_there_is_no_such_pipe(self):
        for pipes in ([], [[5]], [[5], [4]], [[5], [4], [3]]):
            for pipe in (len(pipes), len(pipes) + 1, GREATEST):
                with self.subTest(pipes=pipes, pipe=pipe):
                    self.assertEqual(last(*built(*pipes), ("mean_with_interval", pipe, 2)), [-2])

    def test_a_wrong_pipe_is_told_ahead_of_a_wrong_interval(self):
        for pipes in ([], [[5]]):
            for interval in (0, 21, GREATEST):
                with self.subTest(pipes=pipes, interval=interval):
                    self.assertEqual(last(*built(*pipes), ("mean_with_interval", len(pipes), interval)), [-2])


class BestMeanAlone(unittest.TestCase):
    def test_it_is_the_greatest_of_all_cycles(self):
        for outputs in PIPES:
            with self.subTest(outputs=outputs):
                expected = as_answered(max(means_of_cycles([outputs])))
                self.assertEqual(last(*built(outputs), ("best_mean_alone", 0)), expected)

    def test_it_is_the_best_mean_of_an_instance_with_this_pipe(self):
        for outputs in PIPES:
            with self.subTest(outputs=outputs):
                alone, best = ask(*built(outputs), ("best_mean_alone", 0), ("best_mean",))[-2:]
                self.assertEqual(alone, best)

    def test_the_other_pipes_and_the_ages_do_not_count(self):
        start = built([10, 4], [7], [7, 7, 0])
        for past in ([], [0, 0, 0], [1, 2, 3]):
            asked = [("best_mean_alone", pipe) for pipe in range(3)]
            with self.subTest(past=past):
                parts = ask(*start, ("operate_days", past), *asked)[-3:]
                self.assertEqual(parts, [[0, 5, 1], [0, 7, 1], [0, 14, 3]])

    def test_it_follows_the_pipes_numbers(self):
        calls = built([10, 4], [7]) + [("remove_pipe", 0), ("best_mean_alone", 0), ("best_mean_alone", 1)]
        self.assertEqual(ask(*calls)[-2:], [[0, 7, 1], [-2]])

    def test_zero_is_0_1(self):
        for outputs in ([0], [0, 0], [0, 0, 0, 0]):
            with self.subTest(outputs=outputs):
                self.assertEqual(last(*built(outputs), ("best_mean_alone", 0)), [0, 0, 1])

    def test_there_is_no_such_pipe(self):
        for pipes in ([], [[5]], [[5], [4]], [[5], [4], [3]]):
            for pipe in (len(pipes), len(pipes) + 1, GREATEST):
                with self.subTest(pipes=pipes, pipe=pipe):
                    self.assertEqual(last(*built(*pipes), ("best_mean_alone", pipe)), [-2])


class OutputWithoutCleaning(unittest.TestCase):
    def test_it_is_the_sum_of_the_last_outputs(self):
        for pipes in SMALL + LARGE:
            with self.subTest(pipes=pipes):
                expected = [sum(outputs[-1] for outputs in pipes)]
                self.assertEqual(last(*built(*pipes), ("output_without_cleaning",)), expected)

    def test_it_is_the_output_of_a_day_after_a_long_time(self):
        for pipes in SMALL + LARGE:
            for past in ([], [len(pipes)], [0, 0]):
                start = built(*pipes) + [("operate_days", past), ("output_without_cleaning",)]
                with self.subTest(pipes=pipes, past=past):
                    parts = ask(*start, ("operate_days", [0] * 20), ("operate", 0))
                    self.assertEqual(parts[-3], parts[-1])

    def test_without_pipes(self):
        self.assertEqual(last(("create",), ("output_without_cleaning",)), [0])
        self.assertEqual(last(*built([5]), ("remove_pipe", 0), ("output_without_cleaning",)), [0])


if __name__ == "__main__":
    unittest.main()
