"""Many houses, each reckoned a second time in another way."""

import heapq
import random
import unittest

from calling import act, begins, cuts, dearest, kept, parts, real, together, values


def some_house(chance):
    facts = chance.choice((1, 2, 3, 4, 5, 5, 6, 6, 7, 7, 8, 8))
    full = 2 ** facts

    def few():
        return chance.randrange(full) & chance.randrange(full)

    def one():
        return 2 ** chance.randrange(facts)

    def one_or_none():
        return chance.choice((0, one()))

    def many():
        return chance.randrange(full) | chance.randrange(full)

    costs = chance.choice(((1,), (1, 2), (1, 2, 3, 7, 1000), tuple(range(1, 20))))
    needs = chance.choice((few, one, one_or_none, lambda: few() & few()))
    brings = chance.choice((few, one, lambda: one() | one()))
    takes = chance.choice((few, one, many, lambda: 0))
    acts = [(needs(), brings(), takes(), chance.choice(costs))
            for _ in range(chance.choice((chance.randint(0, 12), 10, 12)))]
    return facts, acts, chance.choice((chance.randrange(full), many())), chance.choice((few(), one(), 0))


def facts_of(row):
    return [fact for fact in range(8) if row >> fact & 1]


def settled(facts, acts, state, total):
    """Facts are had one by one, the cheapest first; what's been had doesn't change any more."""
    had = {fact: 0 for fact in range(facts) if state >> fact & 1}
    while True:
        offers = []
        for needs, brings, _, cost in acts:
            needed = facts_of(needs)
            if all(fact in had for fact in needed):
                price = cost + total([had[fact] for fact in needed])
                offers += [(price, fact) for fact in facts_of(brings) if fact not in had]
        if not offers:
            return had
        price, fact = min(offers)
        had[fact] = price


def dearest_of(row):
    return max(row, default=0)


def worth_of_wanted(house, total):
    facts, acts, wanted, state = house
    had = settled(facts, acts, state, total)
    if any(fact not in had for fact in facts_of(wanted)):
        return [-6]
    return [total([had[fact] for fact in facts_of(wanted)])]


def told_values(house):
    facts, acts, _, state = house
    had = settled(facts, acts, state, dearest_of)
    answer = [facts]
    for fact in range(facts):
        answer += [1, had[fact]] if fact in had else [0]
    return answer


def cheapest_plan(house, taking):
    """The first of the cheapest plans, found forward: plans come in the order of their cost, then of their acts."""
    _, acts, wanted, state = house
    heap = [(0, (), state)]
    done = set()
    while heap:
        cost, plan, here = heapq.heappop(heap)
        if here & wanted == wanted:
            return [cost, *plan]
        if here in done:
            continue
        done.add(here)
        for number, (needs, brings, takes, price) in enumerate(acts):
            if here & needs == needs:
                there = (here & ~takes if taking else here) | brings
                heapq.heappush(heap, (cost + price, plan + (number,), there))
    return [-6]


def grown(start, links):
    """All that is reached from what's in start by links, each from one thing to several."""
    reached = set(start)
    todo = list(start)
    while todo:
        here = todo.pop()
        for one, several in links:
            if one == here:
                todo += [other for other in several if other not in reached]
                reached |= set(several)
    return reached


def next_cut(facts, acts, prices, wanted, state):
    """One cut by the words, or None if what's wanted is worth nothing."""
    priced = [(needs, brings, 0, price) for (needs, brings, _, _), price in zip(acts, prices)]
    had = settled(facts, priced, state, dearest_of)
    if dearest_of([had[fact] for fact in facts_of(wanted)]) == 0:
        return None

    def dear(row):
        return min(facts_of(row), key=lambda fact: (-had[fact], fact), default="always")

    may = [number for number, each in enumerate(acts) if all(fact in had for fact in facts_of(each[0]))]
    dears = {number: dear(acts[number][0]) for number in may}
    brought = {number: facts_of(acts[number][1]) for number in may}
    back = [(fact, [dears[number]]) for number in may if prices[number] == 0 for fact in brought[number]]
    zone = grown(["end"], back + [("end", [dear(wanted)])])
    on = [(dears[number], [fact for fact in brought[number] if fact not in zone]) for number in may]
    before = grown(facts_of(state) + ["always"], on)
    return [number for number in may if dears[number] in before and zone & set(brought[number])]


def cuts_by_the_words(house):
    facts, acts, wanted, state = house
    if worth_of_wanted(house, dearest_of) == [-6]:
        return None
    prices = [cost for _, _, _, cost in acts]
    found = []
    while True:
        cut = next_cut(facts, acts, prices, wanted, state)
        if cut is None:
            return found
        worth = min(prices[number] for number in cut)
        for number in cut:
            prices[number] -= worth
        found.append((worth, cut))


def told_cuts(found):
    if found is None:
        return [-6]
    answer = [sum(worth for worth, _ in found), len(found)]
    for worth, cut in found:
        answer += [worth, len(cut), *cut]
    return answer


def read_cuts(answer):
    found = []
    at = 2
    while at < len(answer):
        found.append((answer[at], answer[at + 2:at + 2 + answer[at + 1]]))
        at += 2 + answer[at + 1]
    return found


def asked(house):
    facts, acts, wanted, state = house
    calls = [begins(facts, wanted)]
    calls += [act(needs, brings, cost, takes) for needs, brings, takes, cost in acts]
    calls += [call(state) for call in (dearest, together, kept, cuts, real, values)]
    names = ("dearest", "together", "kept", "cuts", "real", "values")
    return dict(zip(names, parts(*calls)[-6:]))


class Reckoned(unittest.TestCase):
    @classmethod
    def setUpClass(cls):
        chance = random.Random(20)
        houses = [some_house(chance) for _ in range(3000)]
        cls.asked = [(house, asked(house)) for house in houses]

    def test_worths_are_as_settled_one_by_one(self):
        for house, told in self.asked:
            self.assertEqual(told["dearest"], worth_of_wanted(house, dearest_of), house)
            self.assertEqual(told["together"], worth_of_wanted(house, sum), house)
            self.assertEqual(told["values"], told_values(house), house)

    def test_plans_are_as_found_forward(self):
        for house, told in self.asked:
            self.assertEqual(told["kept"], cheapest_plan(house, False), house)
            self.assertEqual(told["real"], cheapest_plan(house, True)[:1], house)

    def test_cuts_are_as_by_the_words(self):
        for house, told in self.asked:
            self.assertEqual(told["cuts"], told_cuts(cuts_by_the_words(house)), house)

    def test_none_is_above_what_it_really_costs(self):
        for house, told in self.asked:
            if told["kept"] != [-6]:
                self.assertTrue(0 <= told["dearest"][0] <= told["cuts"][0] <= told["kept"][0], (house, told))
            if told["real"] != [-6]:
                self.assertTrue(0 <= told["kept"][0] <= told["real"][0], (house, told))

    def test_they_are_refused_together(self):
        for house, told in self.asked:
            for name in ("together", "kept", "cuts"):
                self.assertEqual(told[name] == [-6], told["dearest"] == [-6], (house, told))
            if told["dearest"] == [-6]:
                self.assertEqual(told["real"], [-6], (house, told))

    def test_each_told_cut_is_met_by_each_plan(self):
        for house, told in self.asked:
            for worth, cut in read_cuts(told["cuts"]):
                self.assertGreater(worth, 0, house)
                self.assertEqual(cut, sorted(set(cut)), house)
                self.assertTrue(set(cut) & set(told["kept"][1:]), (house, told))
                plan = cheapest_plan(house, True)
                self.assertTrue(plan == [-6] or set(cut) & set(plan[1:]), (house, told))

    def test_without_the_acts_of_a_cut_there_is_no_plan(self):
        for house, told in self.asked:
            facts, acts, wanted, state = house
            for _, cut in read_cuts(told["cuts"]):
                others = [each for number, each in enumerate(acts) if number not in cut]
                self.assertEqual(worth_of_wanted((facts, others, wanted, state), dearest_of), [-6], house)

    def test_no_act_is_worth_more_in_all_cuts_than_it_costs(self):
        for house, told in self.asked:
            for number, each in enumerate(house[1]):
                shares = [worth for worth, cut in read_cuts(told["cuts"]) if number in cut]
                self.assertLessEqual(sum(shares), each[3], (house, told))

    def test_the_houses_are_of_many_kinds(self):
        told = [each for _, each in self.asked]
        had = [each for each in told if each["dearest"] != [-6]]
        kinds = {
            "can't be had": [each["dearest"] == [-6] for each in told],
            "has no real plan": [each["real"] == [-6] for each in had],
            "together is more": [each["together"] > each["dearest"] for each in had],
            "real is more than kept": [each["real"][0] > each["kept"][0] for each in had],
            "kept is more than cuts": [each["kept"][0] > each["cuts"][0] for each in had],
            "cuts are more than dearest": [each["cuts"][0] > each["dearest"][0] for each in had],
            "has four cuts": [each["cuts"][1] >= 4 for each in had],
            "has a cut of three acts": [any(len(cut) >= 3 for _, cut in read_cuts(each["cuts"])) for each in had],
            "has a plan of three acts": [len(each["kept"]) >= 4 for each in had],
        }
        for kind, houses in kinds.items():
            self.assertGreater(sum(houses), 50, kind)


if __name__ == "__main__":
    unittest.main()
