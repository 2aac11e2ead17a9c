import unittest

from calling import HUGE, act, ask, begins, dearest, goal, last, told, together


class HowManyNumbers(unittest.TestCase):
    def test_just_five(self):
        row = [0, 0, 1, 0, 1, 1]
        for many in range(7):
            answer = 0 if many == 5 else -1
            self.assertEqual(ask(told(*row[:many])), [answer], many)

    def test_the_next_call_is_found_behind_each(self):
        for many in range(7):
            self.assertEqual(last(begins(1, 1), told(*[0] * many), dearest(1)), 0, many)
            self.assertEqual(last(begins(1, 1), told(*[0] * many), dearest(0)), -6, many)
            self.assertEqual(last(begins(1, 1), told(*[3] * many), dearest(2)), -1, many)


class FactsThatThereArent(unittest.TestCase):
    def test_in_each_set(self):
        for facts in range(1, 9):
            for wrong in (2 ** facts, 2 ** facts + 1, 2 ** 31, HUGE):
                for place in range(4):
                    row = [0, 0, 0, 0, 1]
                    row[place] = wrong
                    self.assertEqual(ask(begins(facts, 0), told(*row)), [0, -1], (facts, row))

    def test_all_facts_that_there_are(self):
        for facts in range(1, 9):
            full = 2 ** facts - 1
            self.assertEqual(ask(begins(facts, 0), told(full, 0, full, full, 1)), [0, 0])
            for place in (0, 2, 3):
                row = [0, 0, 0, 0, 1]
                row[place] = full
                self.assertEqual(ask(begins(facts, 0), told(*row)), [0, 0], (facts, row))

    def test_an_act_may_be_without_any(self):
        self.assertEqual(ask(told(0, 0, 0, 0, 1)), [0])


class SomethingThatMustntBeSo(unittest.TestCase):
    def test_is_refused(self):
        for mustnt in (1, 2, 3, 7, 8, 256, HUGE):
            self.assertEqual(ask(begins(3, 0), told(0, mustnt, 1, 0, 1)), [0, -1], mustnt)


class Costs(unittest.TestCase):
    def test_one_to_a_thousand(self):
        for cost in (1, 2, 999, 1000):
            self.assertEqual(ask(begins(1, 1), act(0, 1, cost), dearest(0)), [0, 0, cost])

    def test_others_are_refused(self):
        for cost in (0, 1001, 1024, HUGE):
            self.assertEqual(ask(begins(1, 1), act(0, 1, cost), dearest(0)), [0, -1, -6])


class Numbers(unittest.TestCase):
    def test_rise_from_0(self):
        self.assertEqual(ask(*[act(0, 1, 1)] * 12), list(range(12)))

    def test_a_refused_act_has_none(self):
        self.assertEqual(ask(act(0, 1, 1), act(0, 1, 0), told(), act(0, 2, 1), act(0, 1, 2)), [0, -1, -1, -1, 1])

    def test_the_same_act_twice_is_two(self):
        self.assertEqual(ask(act(1, 1, 7), act(1, 1, 7)), [0, 1])


class TheThirteenth(unittest.TestCase):
    def test_is_refused(self):
        self.assertEqual(ask(*[act(0, 1, 1)] * 14), list(range(12)) + [-7, -7])

    def test_goes_ahead_of_what_else_is_wrong(self):
        wrong = [told(), told(1), told(0, 0, 1, 0), told(0, 0, 1, 0, 1, 1), told(2, 0, 0, 0, 1),
                 told(0, 1, 0, 0, 1), told(0, 2, 0, 0, 1), told(0, 0, 2, 0, 1), told(0, 0, 0, 2, 1),
                 act(0, 1, 0), act(0, 1, 1001), told(*[HUGE] * 5), told(*[HUGE] * 6)]
        for row in wrong:
            self.assertEqual(ask(row), [-1], row)
            self.assertEqual(last(*[act(0, 1, 1)] * 11, row), -1, row)
            self.assertEqual(last(*[act(0, 1, 1)] * 12, row), -7, row)

    def test_isnt_there_then(self):
        calls = [begins(1, 1)] + [act(0, 1, 9)] * 12 + [act(0, 1, 1), dearest(0), together(0)]
        self.assertEqual(ask(*calls)[13:], [-7, 9, 9])

    def test_refused_acts_dont_count(self):
        calls = [act(0, 1, 0)] * 13 + [act(0, 1, 1)] * 12 + [act(0, 1, 1)]
        self.assertEqual(ask(*calls), [-1] * 13 + list(range(12)) + [-7])


class WhatARefusalLeaves(unittest.TestCase):
    def test_all_is_as_it_was(self):
        wrong = [told(), told(0, 0, 4, 0), told(0, 0, 4, 0, 1, 1), told(8, 0, 4, 0, 1), told(0, 1, 4, 0, 1),
                 told(0, 0, 12, 0, 1), told(0, 0, 4, 8, 1), told(0, 0, 4, 0, 0), told(0, 0, 4, 0, 1001)]
        for row in wrong:
            calls = [begins(3, 4), act(1, 2, 5), act(2, 4, 6), row,
                     dearest(1), together(1), dearest(0), dearest(8), goal(8), act(0, 4, 1), dearest(0)]
            self.assertEqual(ask(*calls), [0, 0, 1, -1, 11, 11, -6, -1, -1, 2, 1], row)


if __name__ == "__main__":
    unittest.main()
