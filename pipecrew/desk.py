"""The desk: takes the calls on one new crew as a list of whole numbers and answers them."""

from pipecrew.crew import Crew
from pipecrew.operations import OPERATIONS
from pipecrew.refusals import NotCreated, Refusal

CREATE = 0
WITH_NUMBER = (2, 3, 6, 7, 8)
WITH_LIST = (1, 4)


def read_arguments(calls, place):
    """Return the arguments of the call at this place, and the place of the next call."""
    number = calls[place]
    if number in WITH_NUMBER:
        return [calls[place + 1]], place + 2
    if number in WITH_LIST:
        end = place + 2 + calls[place + 1]
        return [calls[place + 2:end]], end
    return [], place + 1


def perform(crew, number, arguments):
    """Return what the operation answers; nothing but create is taken ahead of create."""
    operation = OPERATIONS[number]
    if number != CREATE and not crew.created:
        raise NotCreated()
    if len(arguments) == 0:
        return operation(crew)
    return operation(crew, arguments[0])


def answer(crew, number, arguments):
    """Return the numbers that are answered; of a refusal its code alone."""
    try:
        return perform(crew, number, arguments)
    except Refusal as refusal:
        return [refusal.code]


def answers(calls):
    """Return the answers of all calls, each behind the count of its numbers."""
    crew = Crew()
    given = []
    place = 0
    while place < len(calls):
        arguments, following = read_arguments(calls, place)
        numbers = answer(crew, calls[place], arguments)
        given.append(len(numbers))
        given.extend(numbers)
        place = following
    return given
