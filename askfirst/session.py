"""Sessions: lists of calls, answered in order."""

from askfirst.commands import Desk, answer_request


def answers(calls):
    """The answers to all calls of one list, each behind how many numbers it has."""
    desk = Desk()
    given = []
    place = 0
    while place < len(calls):
        # A call is 0, how many octets its request has, and these.
        first = place + 2
        behind = first + calls[place + 1]
        answer = answer_request(desk, calls[first:behind])
        given.append(len(answer))
        given.extend(answer)
        place = behind
    return given
