"""Many houses, each reckoned a second time in another way."""

import random
import unittest

from calling import act, ask, begins, dearest, together


def some_house(chance):
    facts = chance.randint(1, 8)
    full = 2 ** facts

    def few():
        return chance.randrange(full) & chance.randrange(full)

    acts = [(few(), few(), chance.choice((0, few())), chance.choice((1, 2, 3, 7, 1000)))
            for _ in range(chance.randint(0, 12))]
    return facts, acts, chance.randrange(full), few()


def settled(facts, acts, state, total):
    """Facts are had one by one, the cheapest first; what's been had doesn't change any more."""
    had = {fact: 0 for fact in range(facts) if state >> fact & 1}
    while True:
        offers = []
        for needs, brings, _, cost in acts:
            needed = [fact for fact in range(facts) if needs >> fact & 1]
            if all(fact in had for fact in needed):
                price = cost + total([had[fact] for fact in needed])
                offers += [(price, fact) for fact in range(facts) if brings >> fact & 1 and fact not in had]
        if not offers:
            return had
        price, fact = min(offers)
        had[fact] = price


def worth_of_wanted(house, total):
    facts, acts, wanted, state = house
    had = settled(facts, acts, state, total)
    row = [fact for fact in range(facts) if wanted >> fact & 1]
    if any(fact not in had for fact in row):
        return -6
    return total([had[fact] for fact in row])


def real_cost(house):
    _, acts, wanted, state = house
    costs = {state: 0}
    done = set()
    while set(costs) - done:
        here = min(set(costs) - done, key=costs.get)
        if here & wanted == wanted:
            return costs[here]
        done.add(here)
        for needs, brings, takes, cost in acts:
            if here & needs == needs:
                there = here & ~takes | brings
                costs[there] = min(costs.get(there, costs[here] + cost), costs[here] + cost)
    return None


def asked(house):
    facts, acts, wanted, state = house
    calls = [begins(facts, wanted)]
    calls += [act(needs, brings, cost, takes) for needs, brings, takes, cost in acts]
    return ask(*calls, dearest(state), together(state))[-2:]


class Reckoned(unittest.TestCase):
    def setUp(self):
        chance = random.Random(20)
        self.houses = [some_house(chance) for _ in range(1500)]

    def test_the_same_as_settled_one_by_one(self):
        for house in self.houses:
            dear = worth_of_wanted(house, lambda row: max(row, default=0))
            self.assertEqual(asked(house), [dear, worth_of_wanted(house, sum)], house)

    def test_the_dearest_is_never_above_what_it_really_costs(self):
        for house in self.houses:
            real = real_cost(house)
            if real is not None:
                self.assertIn(asked(house)[0], range(real + 1), house)

    def test_the_houses_are_of_many_kinds(self):
        kinds = [asked(house) for house in self.houses]
        self.assertGreater(sum(dear == -6 for dear, _ in kinds), 100)
        self.assertGreater(sum(0 < dear == both for dear, both in kinds), 100)
        self.assertGreater(sum(0 < dear < both for dear, both in kinds), 100)


if __name__ == "__main__":
    unittest.main()
