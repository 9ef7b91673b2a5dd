"""What the tests share: calls by their names, answers call by call, and a plain search."""

import itertools

from pipecrew.desk import answers

NUMBERS = {
    "create": 0,
    "add_pipe": 1,
    "remove_pipe": 2,
    "operate": 3,
    "operate_days": 4,
    "ages": 5,
    "output_if": 6,
    "best_total": 7,
    "best_choice": 8,
    "best_mean": 9,
}


def written(calls):
    """Write calls, tuples of a name and its arguments, as the one list that is handed in."""
    numbers = []
    for name, *arguments in calls:
        numbers.append(NUMBERS[name])
        for argument in arguments:
            if isinstance(argument, list):
                numbers.append(len(argument))
                numbers.extend(argument)
            else:
                numbers.append(argument)
    return numbers


def parted(given):
    """Part what was given back into a list for each call."""
    parts = []
    place = 0
    while place < len(given):
        end = place + 1 + given[place]
        if end > len(given):
            raise AssertionError(f"an answer breaks off: {given}")
        parts.append(given[place + 1:end])
        place = end
    return parts


def ask(*calls):
    """Return the answers of the calls, a list for each."""
    parts = parted(answers(written(calls)))
    if len(parts) != len(calls):
        raise AssertionError(f"{len(calls)} calls, {len(parts)} answers")
    return parts


def built(*pipes):
    """Return the calls that create an instance with these pipes."""
    return [("create",)] + [("add_pipe", list(outputs)) for outputs in pipes]


def last(*calls):
    """Return the answer of the last call."""
    return ask(*calls)[-1]


def day(pipes, state, choice):
    """Return output and state after of a day, straight from the document's terms."""
    output = sum(outputs[age] for number, (outputs, age) in enumerate(zip(pipes, state), 1) if number != choice)
    after = tuple(
        0 if number == choice else min(age + 1, len(outputs) - 1)
        for number, (outputs, age) in enumerate(zip(pipes, state), 1)
    )
    return output, after


def all_states(pipes):
    """Return all states of the pipes, those too that no days lead to."""
    return list(itertools.product(*[range(len(outputs)) for outputs in pipes]))


def followed(pipes, state, choices):
    """Return total output and last state of the choices, one day behind another."""
    total = 0
    for choice in choices:
        output, state = day(pipes, state, choice)
        total += output
    return total, state


def all_choices(pipes, days):
    """Return every list of so many choices."""
    return itertools.product(range(len(pipes) + 1), repeat=days)
