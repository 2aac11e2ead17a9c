import unittest

from calling import HUGE, act, ask, begins, dearest, goal, last, together


class BothEstimates(unittest.TestCase):
    def check(self, house, state, by_dearest, by_together):
        self.assertEqual(last(*house, dearest(state)), by_dearest)
        self.assertEqual(last(*house, together(state)), by_together)


class NothingToDo(BothEstimates):
    def test_nothing_wanted(self):
        for state in range(8):
            self.check([begins(3, 0), act(0, 7, 5)], state, 0, 0)

    def test_so_already(self):
        self.check([begins(3, 5), act(0, 5, 9)], 5, 0, 0)
        self.check([begins(3, 5), act(0, 5, 9)], 7, 0, 0)
        self.check([begins(8, 255)], 255, 0, 0)

    def test_some_so_already(self):
        self.check([begins(3, 7), act(0, 1, 9), act(0, 2, 4), act(0, 4, 2)], 1, 4, 6)

    def test_a_fact_that_is_so_is_worth_0_whatever_brings_it(self):
        self.check([begins(2, 3), act(0, 1, 9), act(1, 2, 4)], 1, 4, 4)


class CantBeHad(BothEstimates):
    def test_no_act_brings_it(self):
        self.check([begins(2, 2)], 1, -6, -6)
        self.check([begins(2, 2), act(0, 1, 1), act(2, 1, 1)], 0, -6, -6)

    def test_one_of_several_wanted(self):
        self.check([begins(3, 7), act(0, 3, 1)], 0, -6, -6)
        self.check([begins(3, 7), act(0, 6, 1)], 0, -6, -6)

    def test_a_needed_fact_cant(self):
        self.check([begins(3, 4), act(2, 4, 1)], 1, -6, -6)
        self.check([begins(3, 4), act(3, 4, 1)], 1, -6, -6)
        self.check([begins(3, 4), act(3, 4, 1)], 2, -6, -6)

    def test_something_else_that_cant_does_no_harm(self):
        self.check([begins(3, 2), act(4, 2, 1), act(1, 2, 7)], 1, 7, 7)

    def test_it_hangs_on_the_state(self):
        house = [begins(2, 2), act(1, 2, 3)]
        self.check(house, 0, -6, -6)
        self.check(house, 1, 3, 3)
        self.check(house, 2, 0, 0)


class ActsThatNeedNothing(BothEstimates):
    def test_may_be_done_in_any_state(self):
        self.check([begins(2, 2), act(0, 2, 6)], 0, 6, 6)
        self.check([begins(2, 2), act(0, 2, 6)], 1, 6, 6)


class SeveralFacts(BothEstimates):
    def test_an_act_brings_several(self):
        self.check([begins(3, 7), act(0, 7, 4)], 0, 4, 12)
        self.check([begins(3, 6), act(1, 6, 4)], 1, 4, 8)

    def test_an_act_needs_several(self):
        house = [begins(4, 8), act(0, 1, 2), act(0, 2, 3), act(0, 4, 5), act(7, 8, 10)]
        self.check(house, 0, 15, 20)
        self.check(house, 4, 13, 15)
        self.check(house, 7, 10, 10)

    def test_a_needed_fact_counts_for_each_that_needs_it(self):
        house = [begins(4, 12), act(0, 1, 5), act(1, 4, 1), act(1, 8, 2)]
        self.check(house, 0, 7, 13)

    def test_the_two_estimates_take_other_acts(self):
        house = [begins(4, 8), act(0, 1, 4), act(0, 2, 4), act(0, 4, 6), act(3, 8, 1), act(4, 8, 1)]
        self.check(house, 0, 5, 7)


class ActsThatBringWhatTheyNeed(BothEstimates):
    def test_arent_had_by_that(self):
        self.check([begins(1, 1), act(1, 1, 1)], 0, -6, -6)
        self.check([begins(2, 2), act(2, 3, 1)], 1, -6, -6)

    def test_dont_make_it_cheaper_or_dearer(self):
        self.check([begins(2, 3), act(0, 1, 9), act(1, 3, 1)], 0, 10, 19)


class FactsThatBringEachOther(BothEstimates):
    def test_arent_had_by_that(self):
        self.check([begins(2, 3), act(1, 2, 1), act(2, 1, 1)], 0, -6, -6)
        self.check([begins(3, 7), act(1, 2, 1), act(2, 4, 1), act(4, 1, 1)], 0, -6, -6)

    def test_are_had_once_one_is(self):
        ring = [begins(3, 7), act(1, 2, 1), act(2, 4, 10), act(4, 1, 100)]
        self.check(ring, 1, 11, 12)
        self.check(ring, 2, 110, 120)
        self.check(ring, 4, 101, 201)
        self.check(ring + [act(0, 2, 1000)], 0, 1110, 1000 + 1010 + 1110)


class SeveralActsForOneFact(BothEstimates):
    def test_the_least(self):
        self.check([begins(1, 1), act(0, 1, 5), act(0, 1, 3), act(0, 1, 4)], 0, 3, 3)

    def test_with_what_is_needed_reckoned_in(self):
        house = [begins(3, 4), act(0, 2, 10), act(2, 4, 1), act(0, 4, 12)]
        self.check(house, 0, 11, 11)
        self.check(house + [act(0, 4, 10)], 0, 10, 10)
        self.check(house, 2, 1, 1)

    def test_the_longer_way_may_be_cheaper(self):
        house = [begins(5, 16), act(1, 16, 100), act(8, 16, 1), act(4, 8, 1), act(2, 4, 1), act(1, 2, 1)]
        self.check(house, 1, 4, 4)


class ARowOfNeededFacts(BothEstimates):
    def test_seven_behind_one_another_told_backwards(self):
        acts = [act(2 ** k, 2 ** (k + 1), k + 1) for k in reversed(range(7))]
        self.check([begins(8, 128)] + acts, 1, 28, 28)
        self.check([begins(8, 128)] + acts, 0, -6, -6)

    def test_eight_from_nothing_told_backwards(self):
        acts = [act(2 ** k, 2 ** (k + 1), 1000) for k in reversed(range(7))] + [act(0, 1, 1000)]
        self.check([begins(8, 128)] + acts, 0, 8000, 8000)

    def test_each_needs_all_before(self):
        acts = [act(2 ** k - 1, 2 ** k, 1000) for k in reversed(range(8))]
        self.check([begins(8, 128)] + acts, 0, 8000, 128000)
        self.check([begins(8, 255)] + acts, 0, 8000, 255000)

    def test_cheaper_late_in_the_row(self):
        forward = [act(2 ** k, 2 ** (k + 1), 1) for k in reversed(range(6))]
        house = [begins(8, 192), act(32, 128, 500)] + forward + [act(64, 128, 1), act(1, 128, 600)]
        self.check(house, 1, 7, 13)


class TakingAway(BothEstimates):
    def test_counts_as_if_nothing_were_taken(self):
        for takes in range(8):
            house = [begins(3, 7), act(1, 2, 3, takes), act(1, 4, 5, takes)]
            self.check(house, 1, 5, 8)

    def test_what_really_cant_be_had_together(self):
        house = [begins(2, 3), act(0, 1, 3, 2), act(0, 2, 4, 1)]
        self.check(house, 0, 4, 7)

    def test_brought_and_taken_away_is_brought(self):
        self.check([begins(2, 2), act(0, 2, 3, 2)], 0, 3, 3)

    def test_taken_away_alone_brings_nothing(self):
        self.check([begins(2, 2), act(0, 0, 3, 2)], 0, -6, -6)


class Refusals(BothEstimates):
    def test_a_fact_that_there_isnt(self):
        for facts in range(1, 9):
            for state in (2 ** facts, 2 ** facts + 1, 2 ** 31, HUGE):
                self.check([begins(facts, 0), act(0, 1, 1)], state, -1, -1)

    def test_goes_ahead_of_what_cant_be_had(self):
        self.check([begins(2, 2)], 4, -1, -1)
        self.check([begins(2, 2)], 6, -1, -1)

    def test_asking_changes_nothing(self):
        calls = [begins(3, 4), act(1, 2, 5, 1), act(2, 4, 6, 2)]
        for question in (dearest(0), dearest(1), dearest(8), together(0), together(1), together(HUGE)):
            behind = ask(*calls, question, dearest(1), together(1), dearest(0), goal(7), dearest(1), together(1))
            self.assertEqual(behind[4:], [11, 11, -6, 0, 11, 16], question)


if __name__ == "__main__":
    unittest.main()
