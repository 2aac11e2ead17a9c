"""What facts are worth, from a state. What can't be had is worth None."""


def members(row):
    """The facts of a set, rising."""
    return [fact for fact in range(row.bit_length()) if (row >> fact) & 1]


def dearest_of(worths, row):
    """What a row of facts is worth by the dearest of them."""
    prices = [worths[fact] for fact in members(row)]
    if None in prices:
        return None
    return max(prices, default=0)


def together_of(worths, row):
    """What a row of facts is worth by all of them together."""
    prices = [worths[fact] for fact in members(row)]
    if None in prices:
        return None
    return sum(prices)


def worths_from(facts, acts, state, worth_of_row):
    """What each fact is worth, if a row of facts is worth what worth_of_row says."""
    worths = [0 if (state >> fact) & 1 else None for fact in range(facts)]
    # Worths only ever sink from "can't be had", so they end at the greatest that fit. A cheapest way to a
    # fact needs no fact twice along one thread, so as many turns as there are facts are enough.
    for turn in range(facts):
        for act in acts:
            needed = worth_of_row(worths, act.needs)
            if needed is not None:
                offer(worths, act.brings, needed + act.cost)
    return worths


def offer(worths, row, price):
    """Lowers to the price what is dearer, or could not be had, among the facts of a row."""
    for fact in members(row):
        if worths[fact] is None or worths[fact] > price:
            worths[fact] = price


def estimate_from(house, state, worth_of_row):
    """What the wanted facts are worth, alone in a list; None if they can't be had."""
    worths = worths_from(house.facts, house.acts, state, worth_of_row)
    worth = worth_of_row(worths, house.wanted)
    if worth is None:
        return None
    return [worth]


def values_from(house, state):
    """How many facts there are, then for each 1 and what it's worth, or 0 if it can't be had."""
    answer = [house.facts]
    for worth in worths_from(house.facts, house.acts, state, dearest_of):
        if worth is None:
            answer.append(0)
        else:
            answer.extend([1, worth])
    return answer
