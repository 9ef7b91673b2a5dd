"""Plans of some days: the greatest totals, and the choice that begins such a plan."""

from pipecrew.days import moves_reached


def totals_of_no_days(moves):
    """Return the total of an empty plan from every state."""
    totals = {}
    for state in moves:
        totals[state] = 0
    return totals


def totals_by_choice(moves, later, state):
    """Return, for each first choice, its output and the greatest total of the days behind it."""
    return [output + later[after] for output, after in moves[state]]


def totals_of_day_more(moves, later):
    """Return the greatest totals of plans that are a day longer than those of later."""
    totals = {}
    for state in moves:
        totals[state] = max(totals_by_choice(moves, later, state))
    return totals


def greatest_totals(moves, days):
    """Return a list that has, for 0 to days days, the greatest total from every state."""
    totals = [totals_of_no_days(moves)]
    while len(totals) <= days:
        totals.append(totals_of_day_more(moves, totals[-1]))
    return totals


def greatest_total(pipes, state, days):
    """Return the greatest total of so many days from the state."""
    moves = moves_reached(pipes, state)
    return greatest_totals(moves, days)[-1][state]


def first_best_choice(pipes, state, days):
    """Return the smallest choice that begins a plan with the greatest total."""
    moves = moves_reached(pipes, state)
    later = greatest_totals(moves, days - 1)[-1]
    totals = totals_by_choice(moves, later, state)
    return totals.index(max(totals))
