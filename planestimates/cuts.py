"""Cuts: sets of acts one of which every plan must have."""

from planestimates.house import Act
from planestimates.worth import dearest_of, members, worths_from


def cuts_from(house, state):
    """What all cuts are worth together, how many, then each; None if what's wanted can't be had."""
    cuts = found_cuts(house, state)
    if cuts is None:
        return None
    answer = [sum([worth for worth, cut in cuts]), len(cuts)]
    for worth, cut in cuts:
        answer.extend([worth, len(cut)])
        answer.extend(cut)
    return answer


def found_cuts(house, state):
    """What each cut is worth and its acts, in the order in which they're found."""
    # Behind the house's own facts come two more: the one that's always so, and the end.
    always = 1 << house.facts
    end = always << 1
    facts = house.facts + 2
    so = state | always
    acts = priced_acts(house, always, end)
    worths = worths_from(facts, acts, so, dearest_of)
    if dearest_of(worths, end) is None:
        return None
    cuts = []
    while dearest_of(worths, end) > 0:
        cut = cut_of(acts, worths, so, end)
        cuts.append((take_off(acts, cut), cut))
        worths = worths_from(facts, acts, so, dearest_of)
    return cuts


def priced_acts(house, always, end):
    """The acts as copies, whose costs are prices that may sink, and behind them what's wanted as one more."""
    # What acts take away has no part in the cuts.
    acts = [Act(act.needs or always, act.brings, 0, act.cost) for act in house.acts]
    acts.append(Act(house.wanted, end, 0, 0))
    return acts


def cut_of(acts, worths, so, end):
    """The numbers, rising, of the acts that lead into the zone round the end from before it."""
    dears = [dear_of(worths, act.needs) for act in acts]
    zone = zone_round(acts, dears, end)
    before = before_zone(acts, dears, so, zone)
    return [number for number, act in enumerate(acts) if dears[number] & before != 0 and act.brings & zone != 0]


def dear_of(worths, row):
    """The first of the dearest facts of a row, as a set; an empty one if the row can't be had."""
    worth = dearest_of(worths, row)
    if worth is None:
        return 0
    return 1 << min([fact for fact in members(row) if worths[fact] == worth])


def zone_round(acts, dears, end):
    """The end, and the dear facts from which it's reached by acts with the price 0."""
    zone = 0
    wider = end
    while wider != zone:
        zone = wider
        for act, dear in zip(acts, dears):
            if act.cost == 0 and act.brings & zone != 0:
                wider = wider | dear
    return zone


def before_zone(acts, dears, so, zone):
    """What is so, and the facts that are reached from there by dear facts without the zone."""
    before = 0
    wider = so
    while wider != before:
        before = wider
        for act, dear in zip(acts, dears):
            if dear & before != 0:
                wider = wider | (act.brings & ~zone)
    return before


def take_off(acts, cut):
    """Takes the least price of a cut's acts off the price of each of them, and answers it."""
    worth = min([acts[number].cost for number in cut])
    for number in cut:
        act = acts[number]
        act.cost = act.cost - worth
    return worth
