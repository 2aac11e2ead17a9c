"""What holds for all calls that hand over a state: what they refuse, and that they change nothing."""

import unittest

from calling import HUGE, act, begins, cuts, dearest, goal, kept, last_part, parts, real, together, values

ALL_BUT_VALUES = (dearest, together, kept, cuts, real)
ALL = ALL_BUT_VALUES + (values,)


class AFactThatThereIsnt(unittest.TestCase):
    def test_is_refused(self):
        for call in ALL:
            for facts in range(1, 9):
                for state in (2 ** facts, 2 ** facts + 1, 2 ** 31, HUGE):
                    self.assertEqual(last_part(begins(facts, 0), act(0, 1, 1), call(state)), [-1], (call, state))

    def test_those_that_there_are_arent(self):
        for call in ALL:
            for facts in range(1, 9):
                for state in (0, 1, 2 ** facts - 1):
                    self.assertNotEqual(last_part(begins(facts, 0), call(state))[0], -1, (call, state))

    def test_goes_ahead_of_what_cant_be_had(self):
        for call in ALL:
            self.assertEqual(last_part(begins(2, 2), call(4)), [-1], call)
            self.assertEqual(last_part(begins(2, 2), call(6)), [-1], call)

    def test_how_many_facts_there_are_now(self):
        for call in ALL:
            self.assertEqual(last_part(call(2)), [-1], call)
            self.assertEqual(last_part(begins(8, 255), begins(2, 0), call(4)), [-1], call)
            self.assertEqual(last_part(begins(2, 0), begins(9, 0), call(4)), [-1], call)


class WhatCantBeHad(unittest.TestCase):
    def check(self, house, state, told):
        for call in ALL_BUT_VALUES:
            self.assertEqual(last_part(*house, call(state)), [-6], call)
        self.assertEqual(last_part(*house, values(state)), told)

    def test_at_the_beginning(self):
        self.check([goal(1)], 0, [1, 0])

    def test_no_act_brings_it(self):
        self.check([begins(2, 2)], 1, [2, 1, 0, 0])
        self.check([begins(2, 2), act(0, 1, 1), act(2, 1, 1)], 0, [2, 1, 1, 0])

    def test_one_of_several_wanted(self):
        self.check([begins(3, 7), act(0, 3, 1)], 0, [3, 1, 1, 1, 1, 0])
        self.check([begins(3, 7), act(0, 6, 1)], 0, [3, 0, 1, 1, 1, 1])

    def test_a_needed_fact_cant(self):
        self.check([begins(3, 4), act(3, 4, 1)], 1, [3, 1, 0, 0, 0])
        self.check([begins(3, 4), act(3, 4, 1)], 2, [3, 0, 1, 0, 0])

    def test_facts_that_bring_each_other(self):
        self.check([begins(2, 3), act(1, 2, 1), act(2, 1, 1)], 0, [2, 0, 0])
        self.check([begins(1, 1), act(1, 1, 1)], 0, [1, 0])

    def test_acts_that_bring_nothing(self):
        self.check([begins(2, 2), act(0, 0, 3, 2), act(0, 0, 1)], 1, [2, 1, 0, 0])


class OnlyAsIfNothingWereTakenAway(unittest.TestCase):
    def test_real_alone_is_refused(self):
        house = [begins(2, 3), act(0, 1, 3, 2), act(0, 2, 4, 1)]
        answers = [last_part(*house, call(0)) for call in ALL]
        self.assertEqual(answers, [[4], [7], [7, 0, 1], [7, 2, 4, 1, 1, 3, 1, 0], [-6], [2, 1, 3, 1, 4]])


class AskingChangesNothing(unittest.TestCase):
    HOUSE = [begins(3, 4), act(1, 2, 5, 1), act(2, 4, 6, 2), act(1, 4, 12, 1)]
    BEHIND = [dearest(1), together(1), kept(1), cuts(1), real(1), values(1), goal(7), kept(1), real(1), goal(8),
              act(0, 1, 3), real(1), begins(1, 1), values(0)]
    ANSWERS = [[11], [11], [11, 0, 1], [11, 2, 6, 2, 1, 2, 5, 2, 0, 2], [11], [3, 1, 0, 1, 5, 1, 11], [0], [11, 0, 1],
               [-6], [-1], [3], [22], [0], [1, 0]]

    def test_whatever_was_asked(self):
        self.assertEqual(parts(*self.HOUSE, *self.BEHIND)[4:], self.ANSWERS)
        for call in ALL:
            for state in (0, 1, 2, 7, 8, 9, HUGE):
                answers = parts(*self.HOUSE, call(state), *self.BEHIND)
                self.assertEqual(answers[5:], self.ANSWERS, (call, state))

    def test_asked_twice(self):
        for call in ALL:
            for state in range(9):
                first, second = parts(*self.HOUSE, call(state), call(state))[4:]
                self.assertEqual(first, second, (call, state))


if __name__ == "__main__":
    unittest.main()
