"""The requirements 1 to 4, over many small groups of pipes."""

import itertools
import unittest
from fractions import Fraction

from tests.calling import (
    LARGE, PAIRS, SMALL, all_choices, all_states, ask, built, day, followed, last, means_of_cycles, proving_potentials,
    tight_days,
)

# Every nonincreasing list of one to four outputs from these.
SINGLES = [
    tuple(reversed(outputs))
    for count in range(1, 5)
    for outputs in itertools.combinations_with_replacement((0, 1, 6, 7, 100), count)
]
TRIPLES = [list(triple) for triple in itertools.combinations_with_replacement(
    [(6,), (9, 2), (7, 7, 0), (9, 9, 6, 0)], 3)]


def fraction(numbers):
    """Return the fraction that is answered."""
    if numbers[0] != 0 or len(numbers) != 3:
        raise AssertionError(f"no fraction: {numbers}")
    return Fraction(numbers[1], numbers[2])


def best_mean(pipes):
    """Return the best mean that is answered for the pipes."""
    return fraction(last(*built(*pipes), ("best_mean",)))


def way_to(pipes, goals):
    """Return the shortest choices from the ages 0 to one of the states, and the state that they lead to."""
    start = (0,) * len(pipes)
    waiting = [([], start)]
    seen = {start}
    for choices, state in waiting:
        if state in goals:
            return choices, state
        for choice in range(len(pipes) + 1):
            after = day(pipes, state, choice)[1]
            if after not in seen:
                seen.add(after)
                waiting.append((choices + [choice], after))
    raise AssertionError(f"no choices lead to one of {goals}")


def best_cycle(pipes, mean):
    """Return past days, and choices that are a cycle with this mean behind them."""
    tight = tight_days(pipes, mean, proving_potentials(pipes, mean))
    choices, state = way_to(pipes, tight)
    places = {}
    while state not in places:
        places[state] = len(choices)
        choice, state = tight[state][0]
        choices.append(choice)
    return choices[:places[state]], choices[places[state]:]


class Requirement1(unittest.TestCase):
    def test_no_choices_have_more_and_some_have_exactly_this(self):
        for pipes in SMALL + PAIRS + TRIPLES:
            for days in range(6 if len(pipes) < 3 else 5):
                answered = last(*built(*pipes), ("operate", 0), ("best_total", days))[0]
                state = followed(pipes, (0,) * len(pipes), [0])[1]
                totals = [followed(pipes, state, choices)[0] for choices in all_choices(pipes, days)]
                with self.subTest(pipes=pipes, days=days):
                    self.assertLessEqual(max(totals), answered)
                    self.assertIn(answered, totals)

    def test_by_operating_all_choices(self):
        for pipes in ([(10, 4)], [(9, 6, 2), (7, 1)], [(9, 1), (8, 2), (7, 3)]):
            for days in range(4):
                start = built(*pipes) + [("operate", 0)]
                answered = last(*start, ("best_total", days))
                totals = [last(*start, ("operate_days", list(choices))) for choices in all_choices(pipes, days)]
                with self.subTest(pipes=pipes, days=days):
                    self.assertEqual(max(totals), answered)


class Requirement2(unittest.TestCase):
    def test_some_cycle_attains_the_best_mean(self):
        attained = 0
        for pipes in SMALL[1:] + PAIRS + TRIPLES + LARGE:
            mean = best_mean(pipes)
            with self.subTest(pipes=pipes):
                past, choices = best_cycle(pipes, mean)
                self.assertLessEqual(max(len(past), len(choices)), 20)
                start = built(*pipes) + [("operate_days", past)]
                asked = [("cycle_mean", choices), ("attains_best_mean", choices)]
                parts = ask(*start, *asked)[-2:]
                self.assertEqual(fraction(parts[0]), mean)
                self.assertEqual(parts[1], [1])
                attained += 1
        self.assertGreater(attained, 60)

    def test_no_cycle_has_more(self):
        for pipes in SMALL[1:] + PAIRS:
            if len(all_states(pipes)) > 9:
                continue
            with self.subTest(pipes=pipes):
                self.assertEqual(max(means_of_cycles(pipes)), best_mean(pipes))

    def test_potentials_prove_the_best_mean_and_no_less(self):
        asked = 0
        for pipes in SMALL[1:] + PAIRS + TRIPLES:
            mean = best_mean(pipes)
            # Rational potentials become whole ones if the outputs are taken as many times as the mean's denominator.
            times = mean.denominator
            grown = [tuple(output * times for output in outputs) for outputs in pipes]
            if max(max(outputs) for outputs in grown) > 100:
                continue
            found = proving_potentials(pipes, mean)
            potentials = [found[state] for state in all_states(pipes)]
            start = built(*grown)
            with self.subTest(pipes=pipes):
                self.assertEqual(best_mean(grown), mean * times)
                self.assertEqual(last(*start, ("proves_bound", mean.numerator, 1, potentials)), [1])
                if mean > 0:
                    below = ("proves_bound", mean.numerator * 100 - 1, 100, potentials)
                    self.assertEqual(last(*start, below), [0])
                asked += 1
        self.assertGreater(asked, 50)

    def test_no_proved_bound_is_less_than_the_best_mean(self):
        proved = 0
        for pipes in ([(10, 4)], [(1, 0)], [(3, 3, 0)], [(2, 0), (2, 0)], [(2,), (1, 0)]):
            mean = best_mean(pipes)
            count = len(all_states(pipes))
            for potentials in itertools.product(range(0, 6) if count < 4 else range(0, 4), repeat=count):
                bounds = [Fraction(numerator, 6) for numerator in range(0, 36)]
                calls = [("proves_bound", bound.numerator, bound.denominator, list(potentials)) for bound in bounds]
                parts = ask(*built(*pipes), *calls)[1 + len(pipes):]
                for bound, part in zip(bounds, parts):
                    if part == [1]:
                        proved += 1
                        with self.subTest(pipes=pipes, potentials=potentials, bound=bound):
                            self.assertGreaterEqual(bound, mean)
        self.assertGreater(proved, 1000)


class Requirement3(unittest.TestCase):
    def test_the_best_mean_of_a_single_pipe(self):
        for outputs in SINGLES:
            asked = [("mean_with_interval", 0, interval) for interval in range(1, 10)]
            parts = ask(*built(outputs), *asked, ("best_mean",), ("best_mean_alone", 0))[2:]
            greatest = max([Fraction(outputs[-1])] + [fraction(part) for part in parts[:9]])
            with self.subTest(outputs=outputs):
                self.assertEqual(fraction(parts[9]), greatest)
                self.assertEqual(fraction(parts[10]), greatest)


class Requirement4(unittest.TestCase):
    def test_the_best_mean_of_several_pipes(self):
        less = 0
        for pipes in SMALL[1:] + PAIRS + TRIPLES + LARGE:
            asked = [("best_mean_alone", pipe) for pipe in range(len(pipes))]
            parts = ask(*built(*pipes), ("best_mean",), *asked)[1 + len(pipes):]
            mean = fraction(parts[0])
            single = sum(fraction(part) for part in parts[1:])
            with self.subTest(pipes=pipes):
                self.assertLessEqual(mean, single)
            less += mean < single
        # The crew can't be everywhere, so that it isn't always the sum.
        self.assertGreater(less, 5)


if __name__ == "__main__":
    unittest.main()
