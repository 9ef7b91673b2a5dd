"""The operations on a crew, by their numbers.

Each gives back the list of the numbers that are answered, or raises a
refusal. All checks stand ahead of the first change, so that a refused call
leaves the crew as it was.
"""

from pipecrew.days import output_of_day, state_after
from pipecrew.means import greatest_mean
from pipecrew.plans import first_best_choice, greatest_total
from pipecrew.refusals import NoPipes, NoSuchPipe, OutOfRange, TooManyPipes

MOST_PIPES = 3
MOST_AGES = 4
GREATEST_OUTPUT = 100
MOST_CHOICES = 20
MOST_DAYS = 8


def check_outputs(outputs):
    """Refuse what can't be the outputs of a pipe."""
    if not 1 <= len(outputs) <= MOST_AGES:
        raise OutOfRange()
    if outputs[0] > GREATEST_OUTPUT:
        raise OutOfRange()
    for age in range(1, len(outputs)):
        if outputs[age] > outputs[age - 1]:
            raise OutOfRange()


def check_choice(crew, choice):
    """Refuse the choice of a pipe that doesn't exist."""
    if choice > len(crew.pipes):
        raise NoSuchPipe()


def check_choices(crew, choices):
    """Refuse choices of a pipe that doesn't exist; then too many of them."""
    for choice in choices:
        check_choice(crew, choice)
    if len(choices) > MOST_CHOICES:
        raise OutOfRange()


def run_day(crew, choice):
    """Let a day pass and return its output."""
    output = output_of_day(crew.pipes, crew.state, choice)
    crew.state = state_after(crew.pipes, crew.state, choice)
    crew.day_count += 1
    crew.total_output += output
    return output


def create(crew):
    """Begin anew, without pipes and without past days."""
    crew.begin()
    crew.created = True
    return [0]


def add_pipe(crew, outputs):
    """Add a pipe with age 0; answer its number."""
    check_outputs(outputs)
    if len(crew.pipes) >= MOST_PIPES:
        raise TooManyPipes()
    crew.pipes = crew.pipes + (tuple(outputs),)
    crew.state = crew.state + (0,)
    return [len(crew.pipes) - 1]


def remove_pipe(crew, pipe):
    """Remove a pipe; answer how many remain."""
    if pipe >= len(crew.pipes):
        raise NoSuchPipe()
    crew.pipes = crew.pipes[:pipe] + crew.pipes[pipe + 1:]
    crew.state = crew.state[:pipe] + crew.state[pipe + 1:]
    return [len(crew.pipes)]


def operate(crew, choice):
    """Let a day pass; answer its output."""
    check_choice(crew, choice)
    return [run_day(crew, choice)]


def operate_days(crew, choices):
    """Let a day pass for each choice; answer their total output."""
    check_choices(crew, choices)
    return [sum([run_day(crew, choice) for choice in choices])]


def ages(crew):
    """Answer how many pipes there are, and their ages."""
    return [len(crew.pipes)] + list(crew.state)


def output_if(crew, choice):
    """Answer the output that a day with this choice would have."""
    check_choice(crew, choice)
    return [output_of_day(crew.pipes, crew.state, choice)]


def best_total(crew, days):
    """Answer the greatest total output of so many days."""
    if days > MOST_DAYS:
        raise OutOfRange()
    return [greatest_total(crew.pipes, crew.state, days)]


def best_choice(crew, days):
    """Answer the smallest choice that begins days with the greatest total output."""
    if not 1 <= days <= MOST_DAYS:
        raise OutOfRange()
    return [first_best_choice(crew.pipes, crew.state, days)]


def best_mean(crew):
    """Answer 0 and the greatest mean of a cycle."""
    if len(crew.pipes) == 0:
        raise NoPipes()
    numerator, denominator = greatest_mean(crew.pipes)
    return [0, numerator, denominator]


OPERATIONS = {
    0: create,
    1: add_pipe,
    2: remove_pipe,
    3: operate,
    4: operate_days,
    5: ages,
    6: output_if,
    7: best_total,
    8: best_choice,
    9: best_mean,
}
