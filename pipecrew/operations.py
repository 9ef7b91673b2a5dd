"""The operations on a crew, by their numbers.

Each gives back the list of the numbers that are answered, or raises a
refusal. All checks stand ahead of the first change, so that a refused call
leaves the crew as it was.
"""

from pipecrew.bounds import potentials_prove
from pipecrew.checks import check_bound, check_choice, check_choices, check_days, check_interval
from pipecrew.checks import check_outputs, check_pipe, check_room, check_some_pipes
from pipecrew.days import all_states, follow, output_of_day, youngest_state
from pipecrew.means import greatest_mean, mean_of_cycle, mean_of_interval
from pipecrew.plans import first_best_choice, greatest_total
from pipecrew.refusals import NoCycle


def run_days(crew, choices):
    """Let a day pass for each choice and return their total output."""
    output, state = follow(crew.pipes, crew.state, choices)
    crew.state = state
    crew.day_count += len(choices)
    crew.total_output += output
    return output


def answered_fraction(fraction):
    """Return the numbers that are answered where a fraction is asked for."""
    numerator, denominator = fraction
    return [0, numerator, denominator]


def create(crew):
    """Begin anew, without pipes and without past days."""
    crew.begin()
    crew.created = True
    return [0]


def add_pipe(crew, outputs):
    """Add a pipe with age 0; answer its number."""
    check_outputs(outputs)
    check_room(crew.pipes)
    crew.pipes = crew.pipes + (tuple(outputs),)
    crew.state = crew.state + (0,)
    return [len(crew.pipes) - 1]


def remove_pipe(crew, pipe):
    """Remove a pipe; answer how many remain."""
    check_pipe(crew.pipes, pipe)
    crew.pipes = crew.pipes[:pipe] + crew.pipes[pipe + 1:]
    crew.state = crew.state[:pipe] + crew.state[pipe + 1:]
    return [len(crew.pipes)]


def operate(crew, choice):
    """Let a day pass; answer its output."""
    check_choice(crew.pipes, choice)
    return [run_days(crew, [choice])]


def operate_days(crew, choices):
    """Let a day pass for each choice; answer their total output."""
    check_choices(crew.pipes, choices, 0)
    return [run_days(crew, choices)]


def ages(crew):
    """Answer how many pipes there are, and their ages."""
    return [len(crew.pipes)] + list(crew.state)


def output_if(crew, choice):
    """Answer the output that a day with this choice would have."""
    check_choice(crew.pipes, choice)
    return [output_of_day(crew.pipes, crew.state, choice)]


def best_total(crew, days):
    """Answer the greatest total output of so many days."""
    check_days(days, 0)
    return [greatest_total(crew.pipes, crew.state, days)]


def best_choice(crew, days):
    """Answer the smallest choice that begins days with the greatest total output."""
    check_days(days, 1)
    return [first_best_choice(crew.pipes, crew.state, days)]


def best_mean(crew):
    """Answer 0 and the greatest mean of a cycle."""
    check_some_pipes(crew.pipes)
    return answered_fraction(greatest_mean(crew.pipes))


def cycle_mean(crew, choices):
    """Answer 0 and the mean of the cycle that the choices form."""
    check_choices(crew.pipes, choices, 1)
    mean = mean_of_cycle(crew.pipes, crew.state, choices)
    if mean is None:
        raise NoCycle()
    return answered_fraction(mean)


def attains_best_mean(crew, choices):
    """Answer 1 if the choices form a cycle with the greatest mean, else 0."""
    check_choices(crew.pipes, choices, 1)
    check_some_pipes(crew.pipes)
    mean = mean_of_cycle(crew.pipes, crew.state, choices)
    # The greatest mean is the long work, and not needed without a cycle.
    if mean is None:
        return [0]
    return [1 if mean == greatest_mean(crew.pipes) else 0]


def proves_bound(crew, numerator, denominator, potentials):
    """Answer 1 if the potentials prove the bound, else 0."""
    check_bound(numerator, denominator, potentials)
    check_some_pipes(crew.pipes)
    return [1 if potentials_prove(crew.pipes, potentials, numerator, denominator) else 0]


def mean_with_interval(crew, pipe, interval):
    """Answer 0 and the mean output of this pipe alone, cleaned at this interval."""
    check_pipe(crew.pipes, pipe)
    check_interval(interval)
    return answered_fraction(mean_of_interval(crew.pipes[pipe], interval))


def best_mean_alone(crew, pipe):
    """Answer 0 and the greatest mean of a cycle of this pipe alone."""
    check_pipe(crew.pipes, pipe)
    return answered_fraction(greatest_mean((crew.pipes[pipe],)))


def output_without_cleaning(crew):
    """Answer the sum of the last outputs."""
    return [sum([outputs[-1] for outputs in crew.pipes])]


def clean_all(crew):
    """Set all ages to 0; answer how many pipes there are."""
    crew.state = youngest_state(crew.pipes)
    return [len(crew.pipes)]


def most_degraded(crew):
    """Answer the first pipe that has lost the most output since its cleaning."""
    check_some_pipes(crew.pipes)
    losses = [outputs[0] - outputs[age] for outputs, age in zip(crew.pipes, crew.state)]
    return [losses.index(max(losses))]


def count_states(crew):
    """Answer how many states there are."""
    return [len(all_states(crew.pipes))]


def summary(crew):
    """Answer how many pipes and past days there are, the days' total output, and the ages."""
    return [len(crew.pipes), crew.day_count, crew.total_output] + list(crew.state)


OPERATIONS = {
    0: create,
    1: add_pipe,
    2: remove_pipe,
    3: operate,
    4: operate_days,
    5: ages,
    6: output_if,
    7: best_total,
    8: best_choice,
    9: best_mean,
    10: cycle_mean,
    11: attains_best_mean,
    12: proves_bound,
    13: mean_with_interval,
    14: best_mean_alone,
    15: output_without_cleaning,
    16: clean_all,
    17: most_degraded,
    18: count_states,
    19: summary,
}
