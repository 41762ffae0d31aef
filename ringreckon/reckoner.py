"""A list of calls on a new reckoner, and its answers."""

from ringreckon.moves import answer_of_move
from ringreckon.reckonings import answer_of_reckoning
from ringreckon.ring import Ring

LOAD = 4
LAST_MOVE = 13

# How many numbers follow a call's own; of LOAD these are the count of its row, and the row is still to come.
GIVEN = (0, 2, 1, 0, 1, 1, 1, 1, 0, 1, 0, 1, 1, 1, 3, 0, 0, 0, 0, 1, 1, 2, 1, 0)


def numbers_given(calls, place):
    """The numbers that belong to the call at place."""
    count = GIVEN[calls[place]]
    if calls[place] == LOAD:
        count = count + calls[place + 1]
    return calls[place + 1:place + 1 + count]


def answer_of(call, ring, given):
    if call <= LAST_MOVE:
        return answer_of_move(call, ring, given)
    return answer_of_reckoning(call, ring, given)


def answers(calls):
    """What a new reckoner answers to the calls, one behind another."""
    ring = Ring()
    told = []
    place = 0
    while place < len(calls):
        given = numbers_given(calls, place)
        answer = answer_of(calls[place], ring, given)
        told.append(len(answer))
        told.extend(answer)
        place = place + 1 + len(given)
    return told
