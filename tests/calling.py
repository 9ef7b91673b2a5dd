"""What the tests share: calls by their names, answers call by call, and plain searches."""

import itertools
from fractions import Fraction

from pipecrew.desk import answers

NUMBERS = {
    "create": 0,
    "add_pipe": 1,
    "remove_pipe": 2,
    "operate": 3,
    "operate_days": 4,
    "ages": 5,
    "output_if": 6,
    "best_total": 7,
    "best_choice": 8,
    "best_mean": 9,
    "cycle_mean": 10,
    "attains_best_mean": 11,
    "proves_bound": 12,
    "mean_with_interval": 13,
    "best_mean_alone": 14,
    "output_without_cleaning": 15,
    "clean_all": 16,
    "most_degraded": 17,
    "count_states": 18,
    "summary": 19,
}

# The greatest number that may be handed in.
GREATEST = 4294967295

# Groups of pipes: such as a search over all choices is quick for, larger ones, and pairs.
SMALL = [
    [],
    [(0,)],
    [(100,)],
    [(10, 4)],
    [(10, 10, 0, 0)],
    [(100, 99, 1, 0)],
    [(9, 6, 2), (7, 1)],
    [(5, 5), (5, 5)],
    [(10, 0), (10, 0)],
    [(8, 7, 3, 0), (9,)],
    [(4, 4, 0), (6, 3, 1)],
    [(9, 1), (8, 2), (7, 3)],
]

LARGE = [
    [(100, 77, 31, 3), (90, 61, 30, 2), (99, 50, 50, 1)],
    [(100, 0, 0, 0), (100, 100, 0, 0), (100, 100, 100, 0)],
    [(100, 100, 100, 100)] * 3,
    [(100, 50, 25, 0)] * 3,
    [(0, 0, 0, 0)] * 3,
    [(10, 9, 8, 7), (40, 20, 10, 5), (33, 33, 2)],
    [(100, 99, 0), (97, 61, 13, 12), (89, 2)],
    [(1, 0), (1, 0), (1, 0)],
    [(60,), (50, 10, 10, 0), (55, 54, 0, 0)],
]

PAIRS = [list(pair) for pair in itertools.product(
    [(6,), (9, 2), (7, 7, 0), (8, 5, 1), (9, 9, 6, 0), (5, 3, 2, 1)], repeat=2)]


def written(calls):
    """Write calls, tuples of a name and its arguments, as the one list that is handed in."""
    numbers = []
    for name, *arguments in calls:
        numbers.append(NUMBERS[name])
        for argument in arguments:
            if isinstance(argument, list):
                numbers.append(len(argument))
                numbers.extend(argument)
            else:
                numbers.append(argument)
    return numbers


def parted(given):
    """Part what was given back into a list for each call."""
    parts = []
    place = 0
    while place < len(given):
        end = place + 1 + given[place]
        if end > len(given):
            raise AssertionError(f"an answer breaks off: {given}")
        parts.append(given[place + 1:end])
        place = end
    return parts


def ask(*calls):
    """Return the answers of the calls, a list for each."""
    parts = parted(answers(written(calls)))
    if len(parts) != len(calls):
        raise AssertionError(f"{len(calls)} calls, {len(parts)} answers")
    return parts


def built(*pipes):
    """Return the calls that create an instance with these pipes."""
    return [("create",)] + [("add_pipe", list(outputs)) for outputs in pipes]


def last(*calls):
    """Return the answer of the last call."""
    return ask(*calls)[-1]


def day(pipes, state, choice):
    """Return output and state after of a day, straight from the document's terms."""
    output = sum(outputs[age] for number, (outputs, age) in enumerate(zip(pipes, state), 1) if number != choice)
    after = tuple(
        0 if number == choice else min(age + 1, len(outputs) - 1)
        for number, (outputs, age) in enumerate(zip(pipes, state), 1)
    )
    return output, after


def all_states(pipes):
    """Return all states of the pipes, those too that no days lead to."""
    return list(itertools.product(*[range(len(outputs)) for outputs in pipes]))


def followed(pipes, state, choices):
    """Return total output and last state of the choices, one day behind another."""
    total = 0
    for choice in choices:
        output, state = day(pipes, state, choice)
        total += output
    return total, state


def all_choices(pipes, days):
    """Return every list of so many choices."""
    return itertools.product(range(len(pipes) + 1), repeat=days)


def as_answered(fraction):
    """Return what is answered where this fraction is asked for."""
    return [0, fraction.numerator, fraction.denominator]


def totals_of_all_choices(pipes, state, days, total=0):
    """Return the total output of every list of so many choices; nothing is left out or kept."""
    if days == 0:
        return [total]
    totals = []
    for choice in range(len(pipes) + 1):
        output, after = day(pipes, state, choice)
        totals.extend(totals_of_all_choices(pipes, after, days - 1, total + output))
    return totals


def searched_total(pipes, state, days):
    """Return the greatest total output over every list of choices."""
    return max(totals_of_all_choices(pipes, state, days))


def means_of_cycles(pipes):
    """Return the means of all cycles that meet no state twice, by a search from each state."""
    means = []

    def walk(start, path, state, total):
        for choice in range(len(pipes) + 1):
            output, after = day(pipes, state, choice)
            if after == start:
                means.append(Fraction(total + output, len(path)))
            elif after not in path:
                walk(start, path + [after], after, total + output)

    for start in all_states(pipes):
        walk(start, [start], start, 0)
    return means


def proving_potentials(pipes, mean):
    """Return potentials, times the mean's denominator, that prove the mean; None if there are none."""
    states = all_states(pipes)
    potentials = {state: 0 for state in states}
    for _ in range(len(states) + 1):
        changed = False
        for state in states:
            for choice in range(len(pipes) + 1):
                output, after = day(pipes, state, choice)
                needed = output * mean.denominator - mean.numerator + potentials[after]
                if needed > potentials[state]:
                    potentials[state] = needed
                    changed = True
        if not changed:
            return potentials
    return None


def tight_days(pipes, mean, potentials):
    """Return choice and state after of days at which the potentials leave nothing over, and that lie ahead of a cycle.

    Such a cycle has this mean; without one nothing is returned.
    """
    tight = {state: [] for state in potentials}
    for state in potentials:
        for choice in range(len(pipes) + 1):
            output, after = day(pipes, state, choice)
            if output * mean.denominator - mean.numerator + potentials[after] == potentials[state]:
                tight[state].append((choice, after))
    # What no tight day leaves for a state that is still there lies ahead of no cycle.
    left = True
    while left:
        left = [state for state in tight if not any(after in tight for choice, after in tight[state])]
        for state in left:
            del tight[state]
    return {state: [(choice, after) for choice, after in tight[state] if after in tight] for state in tight}
