"""Cheapest plans: as if nothing were taken away, and as it really is."""


def kept_from(house, state):
    """What it costs as if nothing were taken away, then the first of the cheapest plans; None if there is none."""
    steps = first_steps_if_kept(house)
    if steps[state] is None:
        return None
    answer = [steps[state][0]]
    here = state
    while steps[here][0] > 0:
        number = steps[here][1]
        answer.append(number)
        here = house.acts[number].behind_if_kept(here)
    return answer


def first_steps_if_kept(house):
    """For each state what it costs to what's wanted, and the lowest act that a cheapest plan begins with.

    None stands where there is no plan, and for the act where none is left to do.
    """
    steps = [None] * (1 << house.facts)
    # An act that adds something leads to a state with a greater number, so that one is known already.
    for state in range(len(steps) - 1, -1, -1):
        if state & house.wanted == house.wanted:
            steps[state] = (0, None)
        else:
            steps[state] = min(steps_on(house.acts, steps, state), default=None)
    return steps


def steps_on(acts, steps, state):
    """For each act that leads to a state with a plan: what it costs in all to begin with it, and its number."""
    found = []
    for number, act in enumerate(acts):
        if act.may_be_done(state):
            # An act that adds nothing leads to this very state, whose step isn't known yet: it's no step on.
            step = steps[act.behind_if_kept(state)]
            if step is not None:
                found.append((act.cost + step[0], number))
    return found


def real_from(house, state):
    """What the cheapest plan really costs; None if there is none."""
    done = {}
    waiting = {state: 0}
    while len(waiting) > 0:
        # Every act costs something, so the cheapest waiting state isn't reached more cheaply through another.
        here = min(waiting, key=lambda place: waiting[place])
        cost = waiting.pop(here)
        if here & house.wanted == house.wanted:
            return [cost]
        done[here] = True
        for act in house.acts:
            there = act.behind(here)
            if act.may_be_done(here) and there not in done:
                waiting[there] = min(waiting.get(there, cost + act.cost), cost + act.cost)
    return None
