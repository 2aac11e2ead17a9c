"""The calls on one house, as one flat list of numbers in and one out."""

from planestimates.cuts import cuts_from
from planestimates.house import House, is_set_of
from planestimates.plans import kept_from, real_from
from planestimates.refusals import CANNOT_BE_HAD, WRONG
from planestimates.worth import dearest_of, estimate_from, together_of, values_from

BEGINS = 0
ACT = 1
GOAL = 2
DEAREST = 3
TOGETHER = 4
KEPT = 5
CUTS = 6
REAL = 7


def answers(calls):
    """For each call how many numbers are answered, then these."""
    house = House()
    told = []
    start = 0
    while start < len(calls):
        end = end_of_call(calls, start)
        answer = answer_to(house, calls[start:end])
        told.append(len(answer))
        told.extend(answer)
        start = end
    return told


def end_of_call(calls, start):
    """The place behind the call that begins at start."""
    if calls[start] == BEGINS:
        return start + 3
    if calls[start] == ACT:
        return start + 2 + calls[start + 1]
    return start + 2


def answer_to(house, call):
    if call[0] == BEGINS:
        return [house.begins(call[1], call[2])]
    if call[0] == ACT:
        return [house.act(call[2:])]
    if call[0] == GOAL:
        return [house.goal(call[1])]
    return answer_from_state(house, call[0], call[1])


def answer_from_state(house, number, state):
    """The answer to a call that hands over a state and changes nothing."""
    if not is_set_of(house.facts, state):
        return [WRONG]
    answer = reckoned(house, number, state)
    if answer is None:
        return [CANNOT_BE_HAD]
    return answer


def reckoned(house, number, state):
    """What such a call asks for, number by number; None if what's wanted can't be had."""
    if number == DEAREST:
        return estimate_from(house, state, dearest_of)
    if number == TOGETHER:
        return estimate_from(house, state, together_of)
    if number == KEPT:
        return kept_from(house, state)
    if number == CUTS:
        return cuts_from(house, state)
    if number == REAL:
        return real_from(house, state)
    # No number is handed in but those of the calls, and values, 8, is the last of them.
    return values_from(house, state)
