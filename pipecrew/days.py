"""Single days: what a choice brings, and the ages it leaves behind.

Pipes are a tuple with a tuple of outputs for each pipe. A state is a tuple
with the age of each pipe.
"""


def output_of_day(pipes, state, choice):
    """Return the output of a day with this choice."""
    output = 0
    for pipe, outputs in enumerate(pipes):
        if choice != pipe + 1:
            output += outputs[state[pipe]]
    return output


def state_after(pipes, state, choice):
    """Return the state behind a day with this choice."""
    after = []
    for pipe, outputs in enumerate(pipes):
        if choice == pipe + 1:
            after.append(0)
        else:
            after.append(min(state[pipe] + 1, len(outputs) - 1))
    return tuple(after)


def follow(pipes, state, choices):
    """Return the total output of a day for each choice, and the state behind these days."""
    total = 0
    for choice in choices:
        total += output_of_day(pipes, state, choice)
        state = state_after(pipes, state, choice)
    return total, state


def moves_from(pipes, state):
    """Return the output and the state after of each choice, in the order of the choices."""
    moves = []
    for choice in range(len(pipes) + 1):
        moves.append((output_of_day(pipes, state, choice), state_after(pipes, state, choice)))
    return moves


def moves_reached(pipes, start):
    """Return a dict with the moves from every state that choices can lead to from the start."""
    moves = {}
    waiting = [start]
    while len(waiting) > 0:
        state = waiting.pop()
        if state not in moves:
            moves[state] = moves_from(pipes, state)
            waiting.extend([after for output, after in moves[state]])
    return moves


def oldest_state(pipes):
    """Return the state in which every pipe has its greatest age."""
    return tuple([len(outputs) - 1 for outputs in pipes])


def youngest_state(pipes):
    """Return the state in which every pipe has age 0."""
    return (0,) * len(pipes)


def all_states(pipes):
    """Return the list of all states, in their order; those too that no days lead to."""
    states = [()]
    for outputs in pipes:
        longer = []
        for state in states:
            longer.extend([state + (age,) for age in range(len(outputs))])
        states = longer
    return states
