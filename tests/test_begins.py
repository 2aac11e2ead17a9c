import unittest

from calling import HUGE, act, ask, begins, dearest, goal, last, told, together


class HowManyFacts(unittest.TestCase):
    def test_one_to_eight(self):
        for facts in range(1, 9):
            self.assertEqual(ask(begins(facts, 0)), [0])

    def test_others_are_refused(self):
        for facts in (0, 9, 10, 31, 32, 33, 64, 256, HUGE):
            self.assertEqual(ask(begins(facts, 0)), [-1], facts)
            self.assertEqual(ask(begins(facts, 1)), [-1], facts)
            self.assertEqual(ask(begins(facts, HUGE)), [-1], facts)

    def test_states_reach_as_far_as_the_facts(self):
        for facts in range(1, 9):
            full = 2 ** facts - 1
            self.assertEqual(ask(begins(facts, 0), dearest(full), dearest(full + 1)), [0, 0, -1])


class WhatIsWanted(unittest.TestCase):
    def test_every_set_of_facts_that_there_are(self):
        for facts in range(1, 9):
            for wanted in range(2 ** facts):
                self.assertEqual(ask(begins(facts, wanted)), [0])

    def test_a_fact_that_there_isnt(self):
        for facts in range(1, 9):
            for wanted in (2 ** facts, 2 ** facts + 1, 2 ** 31, HUGE):
                self.assertEqual(ask(begins(facts, wanted)), [-1], (facts, wanted))

    def test_it_is_wanted_then(self):
        self.assertEqual(ask(begins(2, 2), dearest(1), dearest(2)), [0, -6, 0])


class AtTheBeginning(unittest.TestCase):
    def test_one_fact(self):
        self.assertEqual(ask(dearest(0), dearest(1), dearest(2), together(2)), [0, 0, -1, -1])
        self.assertEqual(ask(goal(1), goal(2)), [0, -1])

    def test_nothing_is_wanted(self):
        self.assertEqual(ask(dearest(0), together(0)), [0, 0])

    def test_no_act(self):
        self.assertEqual(ask(goal(1), dearest(0), together(0)), [0, -6, -6])
        self.assertEqual(ask(act(0, 1, 1)), [0])


class WhatIsThereBehindIt(unittest.TestCase):
    def test_acts_are_gone(self):
        calls = [begins(2, 2), act(0, 2, 3), act(0, 2, 2), dearest(0), begins(2, 2), dearest(0), together(0)]
        self.assertEqual(ask(*calls), [0, 0, 1, 2, 0, -6, -6])

    def test_acts_are_numbered_anew(self):
        self.assertEqual(ask(act(0, 1, 1), act(0, 1, 1), begins(1, 1), act(0, 1, 1)), [0, 1, 0, 0])

    def test_twelve_acts_again(self):
        twelve = [act(0, 1, 1)] * 12
        told_again = ask(*twelve, begins(1, 0), *twelve, act(0, 1, 1))
        self.assertEqual(told_again, list(range(12)) + [0] + list(range(12)) + [-7])

    def test_facts_and_wanted_are_replaced(self):
        calls = [begins(8, 255), begins(2, 1), dearest(4), dearest(1), goal(4), begins(8, 0), dearest(128)]
        self.assertEqual(ask(*calls), [0, 0, -1, 0, -1, 0, 0])


class WhatARefusalLeaves(unittest.TestCase):
    def test_all_is_as_it_was(self):
        refused = [(0, 0), (9, 0), (HUGE, 0), (0, 1), (9, 1), (1, 2), (8, 256), (3, 8), (HUGE, HUGE)]
        for facts, wanted in refused:
            calls = [
                begins(3, 4), act(1, 2, 5), act(2, 4, 6),
                begins(facts, wanted),
                dearest(1), together(1), dearest(7), dearest(8), goal(7), goal(8), act(0, 4, 1),
            ]
            self.assertEqual(ask(*calls), [0, 0, 1, -1, 11, 11, 0, -1, 0, -1, 2], (facts, wanted))

    def test_refused_first_of_all(self):
        self.assertEqual(ask(begins(0, 0), dearest(1), dearest(2), goal(1), dearest(0)), [-1, 0, -1, 0, -6])

    def test_twelve_acts_stay(self):
        self.assertEqual(last(*[act(0, 1, 1)] * 12, begins(9, 0), told()), -7)


if __name__ == "__main__":
    unittest.main()
