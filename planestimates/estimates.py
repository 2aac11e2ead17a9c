"""The calls on one house, as one flat list of numbers in and one out."""

from planestimates.house import House, is_set_of
from planestimates.refusals import CANNOT_BE_HAD, WRONG
from planestimates.worth import dearest_of, together_of, worths_from

BEGINS = 0
ACT = 1
GOAL = 2
DEAREST = 3
TOGETHER = 4


def answers(calls):
    """For each call how many numbers are answered, then these."""
    house = House()
    told = []
    start = 0
    while start < len(calls):
        end = end_of_call(calls, start)
        answer = answer_to(house, calls[start:end])
        told.append(len(answer))
        told.extend(answer)
        start = end
    return told


def end_of_call(calls, start):
    """The place behind the call that begins at start."""
    if calls[start] == BEGINS:
        return start + 3
    if calls[start] == ACT:
        return start + 2 + calls[start + 1]
    return start + 2


def answer_to(house, call):
    if call[0] == BEGINS:
        return [house.begins(call[1], call[2])]
    if call[0] == ACT:
        return [house.act(call[2:])]
    if call[0] == GOAL:
        return [house.goal(call[1])]
    return answer_from_state(house, call[0], call[1])


def answer_from_state(house, number, state):
    """The answer to a call that hands over a state and changes nothing."""
    if not is_set_of(house.facts, state):
        return [WRONG]
    if number == DEAREST:
        return [estimate(house, state, dearest_of)]
    if number == TOGETHER:
        return [estimate(house, state, together_of)]
    raise NotImplementedError("there is no such call yet")


def estimate(house, state, worth_of_row):
    worths = worths_from(house.facts, house.acts, state, worth_of_row)
    worth = worth_of_row(worths, house.wanted)
    if worth is None:
        return CANNOT_BE_HAD
    return worth
