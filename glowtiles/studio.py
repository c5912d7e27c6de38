"""The way in: a list of calls is answered by a list of answers."""

from glowtiles.operations import argument_count, perform
from glowtiles.state import State


def answers(calls):
    """Carries out the calls on a new state; gives back, for each, how many numbers it answers, then these."""
    state = State()
    given = []
    place = 0
    while place < len(calls):
        call = calls[place]
        behind = place + 1 + argument_count(call)
        answer = perform(state, call, calls[place + 1:behind])
        given.append(len(answer))
        given.extend(answer)
        place = behind
    return given
