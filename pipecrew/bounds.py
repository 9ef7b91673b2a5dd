"""Bounds of the mean, and the potentials that prove them."""

from pipecrew.days import all_states, moves_from


def potentials_by_state(states, potentials):
    """Return a dict with the potential of each state."""
    by_state = {}
    for state, potential in zip(states, potentials):
        by_state[state] = potential
    return by_state


def potentials_prove(pipes, potentials, numerator, denominator):
    """Tell whether there is one potential for each state and they prove the bound."""
    states = all_states(pipes)
    if len(potentials) != len(states):
        return False
    by_state = potentials_by_state(states, potentials)
    for state in states:
        for output, after in moves_from(pipes, state):
            if (output + by_state[after] - by_state[state]) * denominator > numerator:
                return False
    return True
