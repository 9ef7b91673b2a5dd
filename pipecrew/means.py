"""Means per day in the long run, as fractions: pairs of a numerator and a positive denominator."""

from pipecrew.days import follow, moves_reached, oldest_state
from pipecrew.plans import greatest_totals


def lowest_terms(fraction):
    """Return the same fraction with the least numbers; zero is 0, 1."""
    numerator, denominator = fraction
    divisor, rest = denominator, numerator
    while rest != 0:
        divisor, rest = rest, divisor % rest
    return (numerator // divisor, denominator // divisor)


def is_less(first, second):
    """Tell whether the first fraction is less than the second."""
    return first[0] * second[1] < second[0] * first[1]


def least_gain(totals, state):
    """Return the least mean by which the longest plan from the state exceeds a shorter one."""
    last = len(totals) - 1
    longest = totals[last][state]
    least = (longest, last)
    for days in range(1, last):
        gain = (longest - totals[days][state], last - days)
        if is_less(gain, least):
            least = gain
    return least


def greatest_mean(pipes):
    """Return the greatest mean of a cycle, by Karp's algorithm.

    Karp looks at walks that end in a state; here they begin in it, which is
    the same for the graph turned round, and its cycles have the same means.
    A plan with as many days as there are states must go through a cycle.
    """
    # No cycle is missed: its choices, taken from the oldest state, lead into
    # it, as a pipe that it never cleans has its greatest age all along.
    moves = moves_reached(pipes, oldest_state(pipes))
    totals = greatest_totals(moves, len(moves))
    # No output is below 0, so no mean is.
    best = (0, 1)
    for state in moves:
        gain = least_gain(totals, state)
        if is_less(best, gain):
            best = gain
    return lowest_terms(best)


def mean_of_cycle(pipes, state, choices):
    """Return the mean of the choices, begun in the state; None if they form no cycle."""
    total, after = follow(pipes, state, choices)
    if after != state:
        return None
    return lowest_terms((total, len(choices)))


def mean_of_interval(outputs, interval):
    """Return the mean of a pipe alone that is cleaned every so many days."""
    last = len(outputs) - 1
    # The day of the cleaning has no output.
    total = sum([outputs[min(age, last)] for age in range(interval - 1)])
    return lowest_terms((total, interval))
