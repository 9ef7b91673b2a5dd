"""The checks of the arguments: each raises a refusal, or does nothing."""

from pipecrew.refusals import NoPipes, NoSuchPipe, OutOfRange, TooManyPipes

MOST_PIPES = 3
MOST_AGES = 4
GREATEST_OUTPUT = 100
MOST_CHOICES = 20
MOST_DAYS = 8
GREATEST_NUMERATOR = 100000
GREATEST_DENOMINATOR = 100
GREATEST_POTENTIAL = 10000
GREATEST_INTERVAL = 20


def check_range(number, least, greatest):
    """Refuse a number outside its range."""
    if not least <= number <= greatest:
        raise OutOfRange()


def check_outputs(outputs):
    """Refuse what can't be the outputs of a pipe."""
    check_range(len(outputs), 1, MOST_AGES)
    check_range(outputs[0], 0, GREATEST_OUTPUT)
    for age in range(1, len(outputs)):
        if outputs[age] > outputs[age - 1]:
            raise OutOfRange()


def check_room(pipes):
    """Refuse a further pipe where there is no room for it."""
    if len(pipes) >= MOST_PIPES:
        raise TooManyPipes()


def check_pipe(pipes, pipe):
    """Refuse a pipe that doesn't exist."""
    if pipe >= len(pipes):
        raise NoSuchPipe()


def check_some_pipes(pipes):
    """Refuse what needs pipes where there are none."""
    if len(pipes) == 0:
        raise NoPipes()


def check_choice(pipes, choice):
    """Refuse the choice of a pipe that doesn't exist."""
    if choice > len(pipes):
        raise NoSuchPipe()


def check_choices(pipes, choices, fewest):
    """Refuse choices of a pipe that doesn't exist; then too few or too many of them."""
    for choice in choices:
        check_choice(pipes, choice)
    check_range(len(choices), fewest, MOST_CHOICES)


def check_days(days, fewest):
    """Refuse too few or too many days to plan."""
    check_range(days, fewest, MOST_DAYS)


def check_bound(numerator, denominator, potentials):
    """Refuse a bound or potentials outside their ranges."""
    check_range(numerator, 0, GREATEST_NUMERATOR)
    check_range(denominator, 1, GREATEST_DENOMINATOR)
    for potential in potentials:
        check_range(potential, -GREATEST_POTENTIAL, GREATEST_POTENTIAL)


def check_interval(interval):
    """Refuse an interval outside its range."""
    check_range(interval, 1, GREATEST_INTERVAL)
