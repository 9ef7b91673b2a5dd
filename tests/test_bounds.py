"""proves_bound: potentials that prove a bound, and such as don't."""

import itertools
import unittest
from fractions import Fraction

from tests.calling import GREATEST, SMALL, all_states, ask, built, day, last, proving_potentials

LEAST = -2147483648
MOST = 2147483647


def proved(pipes, numerator, denominator, potentials):
    """Return what proves_bound answers on an instance with these pipes."""
    return last(*built(*pipes), ("proves_bound", numerator, denominator, list(potentials)))


def least_bound(pipes, potentials):
    """Return the least bound that the potentials prove, straight from the document's terms."""
    by_state = dict(zip(all_states(pipes), potentials))
    gains = []
    for state in by_state:
        for choice in range(len(pipes) + 1):
            output, after = day(pipes, state, choice)
            gains.append(output + by_state[after] - by_state[state])
    return max(gains)


class OrdinaryPotentials(unittest.TestCase):
    def test_the_bound_just_so_and_a_little_too_low(self):
        self.assertEqual(proved([[10, 4]], 5, 1, [5, 0]), [1])
        self.assertEqual(proved([[10, 4]], 500, 100, [5, 0]), [1])
        self.assertEqual(proved([[10, 4]], 501, 100, [5, 0]), [1])
        self.assertEqual(proved([[10, 4]], 499, 100, [5, 0]), [0])
        self.assertEqual(proved([[10, 4]], 4, 1, [5, 0]), [0])

    def test_the_least_bound_of_many_potentials(self):
        groups = [pipes for pipes in SMALL[1:] if len(all_states(pipes)) <= 6]
        self.assertGreater(len(groups), 5)
        for pipes in groups:
            count = len(all_states(pipes))
            values = (-7, 0, 3, 10) if count <= 4 else (-2, 6)
            for potentials in itertools.product(values, repeat=count):
                bound = least_bound(pipes, potentials)
                with self.subTest(pipes=pipes, potentials=potentials):
                    # A bound is never below 0, so one below 0 has none beneath it that can be asked for.
                    self.assertEqual(proved(pipes, max(bound, 0), 1, potentials), [1])
                    self.assertEqual(proved(pipes, max(bound, 0) * 7, 7, potentials), [1])
                    if bound > 0:
                        self.assertEqual(proved(pipes, bound * 100 - 1, 100, potentials), [0])
                        self.assertEqual(proved(pipes, bound - 1, 1, potentials), [0])

    def test_potentials_below_0(self):
        for shift in (-10000, -5, -6, 1, 9995):
            with self.subTest(shift=shift):
                # Only the differences count.
                self.assertEqual(proved([[10, 4]], 5, 1, [5 + shift, 0 + shift]), [1])
                self.assertEqual(proved([[10, 4]], 499, 100, [5 + shift, 0 + shift]), [0])

    def test_each_potential_counts(self):
        for pipes in ([(9, 6, 2), (7, 1)], [(9, 1), (8, 2), (7, 3)], [(8, 7, 3, 0), (9,)]):
            count = len(all_states(pipes))
            total = sum(outputs[0] for outputs in pipes)
            self.assertEqual(proved(pipes, total, 1, [0] * count), [1])
            for place in range(count):
                # From here each choice that leads elsewhere gains far too much.
                low = [0] * count
                low[place] = -1000
                with self.subTest(pipes=pipes, place=place):
                    self.assertEqual(proved(pipes, total, 1, low), [0])

    def test_the_order_of_the_states(self):
        # Falling with the ages: the potentials of one order of the states, and the same ones otherwise laid out.
        pipes = [(6, 3, 0), (10, 0)]
        self.assertEqual(all_states(pipes), [(0, 0), (0, 1), (1, 0), (1, 1), (2, 0), (2, 1)])
        found = proving_potentials(pipes, Fraction(8))
        potentials = [found[state] for state in all_states(pipes)]
        bound = least_bound(pipes, potentials)
        swapped = [found[(age, other)] for other in range(2) for age in range(3)]
        self.assertGreater(least_bound(pipes, swapped), bound)
        self.assertEqual(proved(pipes, bound, 1, potentials), [1])
        self.assertEqual(proved(pipes, bound, 1, swapped), [0])

    def test_states_that_no_days_lead_to_count(self):
        # Two ages of 0 come from add_pipe and clean_all alone.
        pipes = [(10, 0), (10, 0)]
        self.assertEqual(proved(pipes, 10, 1, [20, 10, 10, 0]), [1])
        self.assertEqual(proved(pipes, 10, 1, [9, 10, 10, 0]), [0])

    def test_the_ages_do_not_count(self):
        for past in ([], [0], [0, 0], [1], [0, 1, 0]):
            start = built([10, 4]) + [("operate_days", past)]
            with self.subTest(past=past):
                calls = [("proves_bound", 5, 1, [5, 0]), ("proves_bound", 499, 100, [5, 0])]
                self.assertEqual(ask(*start, *calls)[-2:], [[1], [0]])

    def test_no_output_proves_a_bound_of_0(self):
        self.assertEqual(proved([[0]], 0, 1, [0]), [1])
        self.assertEqual(proved([[0, 0], [0]], 0, 100, [3, 3]), [1])
        self.assertEqual(proved([[1]], 0, 1, [0]), [0])


class NumberOfPotentials(unittest.TestCase):
    def test_it_is_the_number_of_states(self):
        for pipes in ([[10]], [[10, 4]], [[10, 4, 1, 0]], [[9, 8], [7, 6, 5]], [[9, 8], [7, 6, 5], [3, 2]]):
            states = len(all_states(pipes))
            for count in range(0, 25):
                with self.subTest(pipes=pipes, count=count):
                    self.assertEqual(proved(pipes, 100000, 1, [0] * count), [1 if count == states else 0])

    def test_the_longest_list(self):
        self.assertEqual(proved([[9] * 4, [8] * 4, [7] * 3], 24, 1, [0] * 48), [1])
        self.assertEqual(proved([[9] * 4, [8] * 4, [7] * 3], 24, 1, [0] * 60), [0])
        # There are 64 states, more than a list can have potentials.
        self.assertEqual(proved([[9] * 4, [8] * 4, [7] * 4], 100000, 1, [0] * 60), [0])


class Limits(unittest.TestCase):
    def test_the_denominator(self):
        for denominator, expected in ((0, -22), (1, 1), (2, 1), (100, 1), (101, -22), (GREATEST, -22)):
            with self.subTest(denominator=denominator):
                self.assertEqual(proved([[10, 4]], 1000, denominator, [5, 0]), [expected])

    def test_the_numerator(self):
        for numerator, expected in ((0, 0), (5, 1), (99999, 1), (100000, 1), (100001, -22), (GREATEST, -22)):
            with self.subTest(numerator=numerator):
                self.assertEqual(proved([[10, 4]], numerator, 1, [5, 0]), [expected])

    def test_the_potentials(self):
        for potential in (10000, -10000):
            with self.subTest(potential=potential):
                self.assertEqual(proved([[10, 4]], 10, 1, [potential, potential]), [1])
                self.assertEqual(proved([[10, 4]], 100000, 1, [potential, 0]), [1])
                self.assertEqual(proved([[10, 4]], 100000, 1, [0, potential]), [1])
        self.assertEqual(proved([[10, 4]], 20010, 1, [-10000, 10000]), [1])
        self.assertEqual(proved([[10, 4]], 20009, 1, [-10000, 10000]), [0])
        for potential in (10001, -10001, LEAST, MOST):
            for potentials in ([potential, 0], [0, potential], [potential, potential]):
                with self.subTest(potentials=potentials):
                    self.assertEqual(proved([[10, 4]], 100000, 1, potentials), [-22])

    def test_wrong_potentials_are_told_ahead_of_their_number(self):
        for potentials in ([10001], [0, 0, -10001], [0] * 59 + [10001]):
            with self.subTest(potentials=potentials):
                self.assertEqual(proved([[10, 4]], 5, 1, potentials), [-22])
        self.assertEqual(proved([[10, 4]], 5, 0, []), [-22])
        self.assertEqual(proved([[10, 4]], 100001, 1, []), [-22])

    def test_without_pipes(self):
        for potentials in ([], [0], [5, 0]):
            with self.subTest(potentials=potentials):
                self.assertEqual(proved([], 5, 1, potentials), [-6])
        self.assertEqual(last(*built([10, 4]), ("remove_pipe", 0), ("proves_bound", 5, 1, [0])), [-6])

    def test_wrong_arguments_are_told_ahead_of_there_being_no_pipes(self):
        for numerator, denominator, potentials in (
            (5, 0, [0]), (5, 101, [0]), (100001, 1, [0]), (5, 1, [10001]), (5, 1, [0, -10001]), (100001, 0, []),
        ):
            with self.subTest(numerator=numerator, denominator=denominator, potentials=potentials):
                self.assertEqual(proved([], numerator, denominator, potentials), [-22])


if __name__ == "__main__":
    unittest.main()
