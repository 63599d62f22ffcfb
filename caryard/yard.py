"""The interface: a list of calls about one new yard, and what they answer."""

from caryard.calls import add_car
from caryard.calls import begin
from caryard.calls import count_fewest
from caryard.calls import free_car
from caryard.calls import move_car
from caryard.calls import tell_hardest
from caryard.calls import tell_places
from caryard.calls import tell_plan
from caryard.calls import tell_reach
from caryard.calls import tell_state
from caryard.calls import want_car
from caryard.layout import Yard

BEGINS = 0
CAR = 1
MOVE = 2
WANT = 3
FREE = 4
FEWEST = 5
PLAN = 6
REACH = 7
PLACES = 8
HARDEST = 9

# How many numbers each call has behind its own, from BEGINS on; the last is state.
NUMBERS_BEHIND = (2, 4, 2, 2, 1, 0, 0, 0, 1, 0, 0)


def answer(yard, call):
    """The numbers that one call answers."""
    kind = call[0]
    if kind == BEGINS:
        return begin(yard, call[1], call[2])
    if kind == CAR:
        return add_car(yard, call[1], call[2], call[3], call[4])
    if kind == MOVE:
        return move_car(yard, call[1], call[2])
    if kind == WANT:
        return want_car(yard, call[1], call[2])
    if kind == FREE:
        return free_car(yard, call[1])
    if kind == FEWEST:
        return count_fewest(yard)
    if kind == PLAN:
        return tell_plan(yard)
    if kind == REACH:
        return tell_reach(yard)
    if kind == PLACES:
        return tell_places(yard, call[1])
    if kind == HARDEST:
        return tell_hardest(yard)
    return tell_state(yard)


def answers(calls):
    """What the calls answer, one behind another: how many numbers, and these."""
    yard = Yard()
    answered = []
    at = 0
    while at < len(calls):
        behind = at + 1 + NUMBERS_BEHIND[calls[at]]
        numbers = answer(yard, calls[at:behind])
        answered.append(len(numbers))
        answered.extend(numbers)
        at = behind
    return answered
