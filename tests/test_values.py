import unittest

from calling import act, begins, dearest, goal, last_part, values


class Values(unittest.TestCase):
    def check(self, house, state, *worths):
        """None stands for what can't be had."""
        answer = [len(worths)]
        for worth in worths:
            answer += [0] if worth is None else [1, worth]
        self.assertEqual(last_part(*house, values(state)), answer)


class FactByFact(Values):
    def test_written_out(self):
        house = [begins(4, 0), act(1, 2, 3), act(3, 8, 4)]
        self.assertEqual(last_part(*house, values(1)), [4, 1, 0, 1, 3, 0, 1, 7])
        self.assertEqual(last_part(*house, values(0)), [4, 0, 0, 0, 0])
        self.assertEqual(last_part(*house, values(15)), [4, 1, 0, 1, 0, 1, 0, 1, 0])

    def test_no_acts(self):
        for facts in range(1, 9):
            self.check([begins(facts, 0)], 0, *[None] * facts)
            self.check([begins(facts, 0)], 2 ** facts - 1, *[0] * facts)
        self.check([begins(3, 7)], 2, None, 0, None)

    def test_what_is_so_is_worth_0_whatever_brings_it(self):
        self.check([begins(2, 3), act(0, 1, 9), act(1, 2, 4)], 1, 0, 4)

    def test_an_act_that_needs_nothing(self):
        self.check([begins(2, 2), act(0, 2, 6)], 0, None, 6)

    def test_an_act_that_brings_several(self):
        self.check([begins(3, 0), act(2, 5, 4)], 2, 4, 0, 4)

    def test_an_act_that_brings_nothing(self):
        self.check([begins(2, 0), act(0, 0, 1), act(0, 0, 1, 3)], 1, 0, None)

    def test_needed_facts_count_by_the_dearest(self):
        house = [begins(4, 8), act(0, 1, 2), act(0, 2, 3), act(0, 4, 5), act(7, 8, 10)]
        self.check(house, 0, 2, 3, 5, 15)
        self.check(house, 4, 2, 3, 0, 13)

    def test_the_least_of_several_acts(self):
        self.check([begins(2, 0), act(0, 1, 5), act(0, 1, 3), act(1, 2, 9), act(0, 2, 11)], 0, 3, 11)

    def test_a_needed_fact_cant_be_had(self):
        self.check([begins(4, 0), act(0, 1, 2), act(3, 4, 1), act(4, 8, 1)], 0, 2, None, None, None)

    def test_facts_that_bring_each_other(self):
        ring = [begins(3, 7), act(1, 2, 1), act(2, 4, 10), act(4, 1, 100)]
        self.check(ring, 0, None, None, None)
        self.check(ring, 1, 0, 1, 11)
        self.check(ring, 2, 110, 0, 10)
        self.check(ring, 4, 100, 101, 0)

    def test_taking_away_counts_for_nothing(self):
        for takes in range(8):
            self.check([begins(3, 7), act(1, 2, 3, takes), act(1, 4, 5, takes)], 1, 0, 3, 5)

    def test_eight_facts_and_twelve_acts(self):
        acts = [act(2 ** k - 1, 2 ** k, 100) for k in reversed(range(8))]
        more = [act(0, 2, 201), act(0, 8, 399), act(8, 128, 300), act(128, 255, 1)]
        self.check([begins(8, 0)] + acts + more, 0, 100, 200, 300, 399, 499, 599, 699, 699)


class WhatIsWanted(Values):
    def test_doesnt_count(self):
        for wanted in range(8):
            self.check([begins(3, wanted), act(0, 1, 5)], 2, 5, 0, None)
            self.check([begins(3, 0), act(0, 1, 5), goal(wanted)], 2, 5, 0, None)

    def test_cant_be_had_and_values_are_told_yet(self):
        house = [begins(2, 3), act(0, 1, 5)]
        self.assertEqual(last_part(*house, dearest(0)), [-6])
        self.check(house, 0, 5, None)


if __name__ == "__main__":
    unittest.main()
