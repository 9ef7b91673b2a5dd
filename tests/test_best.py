"""best_total, best_choice and best_mean, against a plain search over all choices."""

import unittest
from fractions import Fraction

from tests.calling import (
    GREATEST, LARGE, PAIRS, SMALL, all_choices, all_states, ask, built, followed, last, means_of_cycles,
    proving_potentials, searched_total, tight_days, totals_of_all_choices,
)


def searched_choice(pipes, state, days):
    """Return the smallest first choice of a list of choices with the greatest total output."""
    totals = totals_of_all_choices(pipes, state, days)
    # The lists stand in the order of their first choices, as many for each.
    return totals.index(max(totals)) // (len(totals) // (len(pipes) + 1))


def answered_mean(pipes):
    """Return the numerator and the denominator that best_mean answers."""
    zero, numerator, denominator = last(*built(*pipes), ("best_mean",))
    if zero != 0:
        raise AssertionError(f"best_mean begins with {zero}")
    return numerator, denominator


class BestTotal(unittest.TestCase):
    def test_no_days(self):
        for pipes in SMALL + LARGE:
            with self.subTest(pipes=pipes):
                self.assertEqual(last(*built(*pipes), ("best_total", 0)), [0])

    def test_it_is_the_greatest_of_all_choices(self):
        for pipes in SMALL:
            for days in range(1, 6):
                with self.subTest(pipes=pipes, days=days):
                    expected = searched_total(pipes, (0,) * len(pipes), days)
                    self.assertEqual(last(*built(*pipes), ("best_total", days)), [expected])

    def test_eight_days(self):
        for pipes in SMALL[:-1]:
            with self.subTest(pipes=pipes):
                expected = searched_total(pipes, (0,) * len(pipes), 8)
                self.assertEqual(last(*built(*pipes), ("best_total", 8)), [expected])

    def test_eight_days_with_three_pipes(self):
        for pipes in LARGE[:2]:
            with self.subTest(pipes=pipes):
                expected = searched_total(pipes, (0, 0, 0), 8)
                self.assertEqual(last(*built(*pipes), ("best_total", 8)), [expected])

    def test_it_starts_from_the_current_ages(self):
        for pipes in SMALL + LARGE[:2]:
            for past in all_choices(pipes, 2):
                state = followed(pipes, (0,) * len(pipes), past)[1]
                with self.subTest(pipes=pipes, past=past):
                    start = built(*pipes) + [("operate_days", list(past))]
                    expected = [[searched_total(pipes, state, days)] for days in range(4)]
                    asked = [("best_total", days) for days in range(4)]
                    self.assertEqual(ask(*start, *asked)[-4:], expected)

    def test_following_the_best_choices_has_exactly_this_output(self):
        for pipes in SMALL + LARGE:
            calls = built(*pipes) + [("operate", 0), ("best_total", 8)]
            greatest = last(*calls)[0]
            total = 0
            for days in range(8, 0, -1):
                choice = last(*calls, ("best_choice", days))[0]
                calls.append(("operate", choice))
                total += last(*calls)[0]
            with self.subTest(pipes=pipes):
                self.assertEqual(total, greatest)

    def test_too_many_days(self):
        for pipes in ([], [[10, 4]]):
            for days in (9, 10, GREATEST):
                with self.subTest(pipes=pipes, days=days):
                    self.assertEqual(last(*built(*pipes), ("best_total", days)), [-22])


class BestChoice(unittest.TestCase):
    def test_it_is_the_smallest_that_can_have_the_greatest_total(self):
        for pipes in SMALL:
            for past in all_choices(pipes, 2):
                state = followed(pipes, (0,) * len(pipes), past)[1]
                start = built(*pipes) + [("operate_days", list(past))]
                asked = [("best_choice", days) for days in range(1, 5)]
                expected = [[searched_choice(pipes, state, days)] for days in range(1, 5)]
                with self.subTest(pipes=pipes, past=past):
                    self.assertEqual(ask(*start, *asked)[-4:], expected)

    def test_eight_days(self):
        for pipes in SMALL[:-1]:
            state = followed(pipes, (0,) * len(pipes), [0, 0])[1]
            with self.subTest(pipes=pipes):
                expected = searched_choice(pipes, state, 8)
                start = built(*pipes) + [("operate_days", [0, 0])]
                self.assertEqual(last(*start, ("best_choice", 8)), [expected])

    def test_eight_days_with_three_pipes(self):
        for pipes in LARGE[:2]:
            with self.subTest(pipes=pipes):
                start = built(*pipes) + [("operate_days", [0, 0, 2])]
                state = followed(pipes, (0, 0, 0), [0, 0, 2])[1]
                self.assertEqual(last(*start, ("best_choice", 8)), [searched_choice(pipes, state, 8)])

    def test_ties_go_to_the_smallest(self):
        # Cleaning gains exactly what it costs.
        self.assertEqual(last(*built([10, 5]), ("operate", 0), ("best_choice", 2)), [0])
        # Cleaning one pipe is as good as cleaning the other, and better than neither.
        pipes = built([10, 0], [10, 0]) + [("operate", 0)]
        self.assertEqual(ask(*pipes, ("best_choice", 1), ("best_choice", 2))[-2:], [[0], [1]])
        # Without outputs every choice is as good.
        self.assertEqual(last(*built([0], [0, 0]), ("best_choice", 8)), [0])

    def test_the_last_pipe_can_be_the_best(self):
        pipes = built([1, 1], [1, 1], [100, 0]) + [("operate", 0)]
        self.assertEqual(last(*pipes, ("best_choice", 2)), [3])

    def test_without_pipes(self):
        self.assertEqual(ask(("create",), ("best_choice", 1), ("best_choice", 8))[1:], [[0], [0]])

    def test_days_outside_their_range(self):
        for pipes in ([], [[10, 4]]):
            for days in (0, 9, GREATEST):
                with self.subTest(pipes=pipes, days=days):
                    self.assertEqual(last(*built(*pipes), ("best_choice", days)), [-22])


class BestMean(unittest.TestCase):
    def test_one_pipe(self):
        expected = [
            ([0], (0, 1)),
            ([0, 0, 0, 0], (0, 1)),
            ([100], (100, 1)),
            ([10, 4], (5, 1)),
            ([10, 6], (6, 1)),
            ([10, 0], (5, 1)),
            ([10, 10, 0, 0], (20, 3)),
            ([100, 99, 1, 0], (199, 3)),
            ([9, 8, 7, 0], (6, 1)),
            ([1, 0], (1, 2)),
            ([7, 6, 4, 1], (13, 3)),
            ([7, 6, 6, 1], (19, 4)),
        ]
        for outputs, mean in expected:
            with self.subTest(outputs=outputs):
                self.assertEqual(answered_mean([outputs]), mean)

    def test_it_is_the_greatest_of_all_cycles(self):
        for pipes in SMALL[1:] + PAIRS:
            if len(all_states(pipes)) > 9:
                continue
            greatest = max(means_of_cycles(pipes))
            with self.subTest(pipes=pipes):
                self.assertEqual(answered_mean(pipes), (greatest.numerator, greatest.denominator))

    def test_potentials_prove_it_and_a_cycle_attains_it(self):
        for pipes in SMALL[1:] + PAIRS + LARGE:
            numerator, denominator = answered_mean(pipes)
            mean = Fraction(numerator, denominator)
            potentials = proving_potentials(pipes, mean)
            with self.subTest(pipes=pipes):
                self.assertIsNotNone(potentials)
                self.assertGreater(len(tight_days(pipes, mean, potentials)), 0)

    def test_it_stands_in_lowest_terms(self):
        for pipes in SMALL[1:] + PAIRS + LARGE:
            numerator, denominator = answered_mean(pipes)
            mean = Fraction(numerator, denominator)
            with self.subTest(pipes=pipes):
                self.assertEqual((numerator, denominator), (mean.numerator, mean.denominator))

    def test_it_does_not_depend_on_the_ages(self):
        for pipes in SMALL[1:] + LARGE[:2]:
            expected = [0] + list(answered_mean(pipes))
            for past in all_choices(pipes, 3):
                with self.subTest(pipes=pipes, past=past):
                    start = built(*pipes) + [("operate_days", list(past))]
                    self.assertEqual(last(*start, ("best_mean",)), expected)

    def test_it_follows_the_pipes(self):
        calls = built([10, 4], [7]) + [("best_mean",), ("remove_pipe", 0), ("best_mean",)]
        self.assertEqual(ask(*calls)[-3:], [[0, 12, 1], [1], [0, 7, 1]])

    def test_without_pipes(self):
        self.assertEqual(last(("create",), ("best_mean",)), [-6])
        self.assertEqual(last(*built([5]), ("remove_pipe", 0), ("best_mean",)), [-6])


if __name__ == "__main__":
    unittest.main()
