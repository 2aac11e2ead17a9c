"""Writes calls as numbers, and takes an answer apart again."""

from planestimates.estimates import answers

HUGE = 4294967295


def begins(facts, wanted):
    return [0, facts, wanted]


def told(*numbers):
    return [1, len(numbers)] + list(numbers)


def act(needs, brings, cost, takes=0):
    return told(needs, 0, brings, takes, cost)


def goal(wanted):
    return [2, wanted]


def dearest(state):
    return [3, state]


def together(state):
    return [4, state]


def kept(state):
    return [5, state]


def cuts(state):
    return [6, state]


def real(state):
    return [7, state]


def values(state):
    return [8, state]


def flat(calls):
    return [number for call in calls for number in call]


def split(numbers):
    parts = []
    at = 0
    while at < len(numbers):
        end = at + 1 + numbers[at]
        if numbers[at] < 1 or end > len(numbers):
            raise AssertionError("a count doesn't fit in %r" % (numbers,))
        parts.append(numbers[at + 1:end])
        at = end
    return parts


def parts(*calls):
    """What each call is answered, a list each."""
    found = split(answers(flat(calls)))
    if len(found) != len(calls):
        raise AssertionError("not one answer a call: %r" % (found,))
    return found


def ask(*calls):
    """What each call is answered, if each answer is one number."""
    found = parts(*calls)
    if any(len(part) != 1 for part in found):
        raise AssertionError("not one number a call: %r" % (found,))
    return [part[0] for part in found]


def last(*calls):
    return ask(*calls)[-1]


def last_part(*calls):
    return parts(*calls)[-1]
