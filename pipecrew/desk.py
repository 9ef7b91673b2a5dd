"""The desk: takes the calls on one new crew as a list of whole numbers and answers them."""

from pipecrew.crew import Crew
from pipecrew.operations import OPERATIONS
from pipecrew.refusals import NotCreated, Refusal

CREATE = 0
WITH_NUMBER = (2, 3, 6, 7, 8, 14)
WITH_TWO_NUMBERS = (12, 13)
WITH_LIST = (1, 4, 10, 11, 12)


def count_of_numbers(number):
    """Return how many whole numbers the call with this number has, ahead of its list."""
    if number in WITH_NUMBER:
        return 1
    if number in WITH_TWO_NUMBERS:
        return 2
    return 0


def read_arguments(calls, place):
    """Return the arguments of the call at this place, and the place of the next call."""
    number = calls[place]
    end = place + 1 + count_of_numbers(number)
    numbers = calls[place + 1:end]
    if number not in WITH_LIST:
        return numbers, end
    start = end + 1
    end = start + calls[end]
    return numbers + [calls[start:end]], end


def run_operation(crew, operation, arguments):
    """Return what the operation answers to its arguments, of which there are three at most."""
    if len(arguments) == 0:
        return operation(crew)
    if len(arguments) == 1:
        return operation(crew, arguments[0])
    if len(arguments) == 2:
        return operation(crew, arguments[0], arguments[1])
    return operation(crew, arguments[0], arguments[1], arguments[2])


def perform(crew, number, arguments):
    """Return what the call answers; nothing but create is taken ahead of create."""
    operation = OPERATIONS[number]
    if number != CREATE and not crew.created:
        raise NotCreated()
    return run_operation(crew, operation, arguments)


def answer(crew, number, arguments):
    """Return the numbers that are answered; of a refusal its code alone."""
    try:
        return perform(crew, number, arguments)
    except Refusal as refusal:
        return [refusal.code]


def answers(calls):
    """Return the answers of all calls, each behind the count of its numbers."""
    crew = Crew()
    given = []
    place = 0
    while place < len(calls):
        arguments, following = read_arguments(calls, place)
        numbers = answer(crew, calls[place], arguments)
        given.append(len(numbers))
        given.extend(numbers)
        place = following
    return given
