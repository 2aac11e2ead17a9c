import unittest

from calling import act, ask, begins, cuts, dearest, goal, kept, last_part, real, together, values

CHAIN = [act(0, 1, 1)] + [act(2 ** k, 2 ** (k + 1), k + 2) for k in range(7)]


class Cuts(unittest.TestCase):
    def check(self, house, state, *found):
        """Each cut is what it's worth, and a list of its acts."""
        answer = [sum(worth for worth, _ in found), len(found)]
        for worth, acts in found:
            answer += [worth, len(acts)] + acts
        self.assertEqual(last_part(*house, cuts(state)), answer)

    def refused(self, house, state):
        self.assertEqual(last_part(*house, cuts(state)), [-6])


class NoCuts(Cuts):
    def test_nothing_wanted(self):
        for state in range(8):
            self.check([begins(3, 0), act(0, 7, 5)], state)

    def test_so_already(self):
        self.check([begins(3, 5), act(0, 5, 9)], 5)
        self.check([begins(3, 5), act(0, 5, 9)], 7)

    def test_no_acts(self):
        self.check([begins(2, 1)], 1)
        self.check([begins(2, 0)], 0)
        self.refused([begins(2, 1)], 2)

    def test_written_out(self):
        self.assertEqual(last_part(cuts(0)), [0, 0])
        self.assertEqual(last_part(goal(1), cuts(0)), [-6])


class OneCut(Cuts):
    def test_written_out(self):
        self.assertEqual(last_part(begins(1, 1), act(0, 1, 5), cuts(0)), [5, 1, 5, 1, 0])

    def test_an_act_that_needs_nothing(self):
        self.check([begins(2, 2), act(0, 2, 5)], 0, (5, [0]))
        self.check([begins(2, 2), act(0, 2, 5)], 1, (5, [0]))

    def test_an_act_that_needs_what_is_so(self):
        self.check([begins(2, 2), act(1, 2, 5)], 1, (5, [0]))
        self.refused([begins(2, 2), act(1, 2, 5)], 0)

    def test_all_acts_that_bring_it_rising(self):
        self.check([begins(1, 1), act(0, 1, 5), act(0, 1, 3), act(0, 1, 4)], 0, (3, [0, 1, 2]))

    def test_acts_with_and_without_needed_facts(self):
        self.check([begins(2, 2), act(1, 2, 5), act(0, 2, 6)], 1, (5, [0, 1]))
        self.check([begins(2, 2), act(1, 2, 5), act(0, 2, 6)], 0, (6, [1]))

    def test_acts_that_need_nothing_share_a_fact(self):
        # If it weren't always so, fact 1 and with it act 1 wouldn't lie before the zone.
        self.check([begins(2, 1), act(0, 2, 1), act(2, 1, 4), act(0, 1, 7)], 0, (4, [1, 2]), (1, [0, 2]))

    def test_one_act_for_all_that_is_wanted(self):
        self.check([begins(3, 7), act(0, 7, 4)], 0, (4, [0]))

    def test_an_act_that_brings_nothing_is_in_none(self):
        self.check([begins(1, 1), act(0, 0, 1), act(0, 1, 3), act(0, 0, 1, 1)], 0, (3, [1]))


class SeveralCuts(Cuts):
    def test_written_out(self):
        house = [begins(3, 4), act(1, 2, 3), act(2, 4, 4)]
        self.assertEqual(last_part(*house, cuts(1)), [7, 2, 4, 1, 1, 3, 1, 0])

    def test_from_the_end_to_the_beginning(self):
        house = [begins(4, 8), act(4, 8, 1), act(2, 4, 10), act(1, 2, 100)]
        self.check(house, 1, (1, [0]), (10, [1]), (100, [2]))
        self.check(house, 3, (1, [0]), (10, [1]))
        self.check(house, 4, (1, [0]))
        self.refused(house, 0)

    def test_the_dearest_wanted_fact_first(self):
        self.check([begins(2, 3), act(0, 1, 2), act(0, 2, 5)], 0, (5, [1]), (2, [0]))
        self.check([begins(2, 3), act(0, 1, 5), act(0, 2, 2)], 0, (5, [0]), (2, [1]))

    def test_of_equally_dear_ones_the_lowest(self):
        self.check([begins(2, 3), act(0, 2, 2), act(0, 1, 2)], 0, (2, [1]), (2, [0]))
        self.check([begins(3, 7), act(0, 4, 2), act(0, 2, 2), act(0, 1, 1)], 0, (2, [1]), (2, [0]), (1, [2]))

    def test_the_dearest_needed_fact(self):
        house = [begins(4, 8), act(7, 8, 10), act(0, 1, 2), act(0, 2, 6), act(0, 4, 6)]
        self.check(house, 0, (10, [0]), (6, [2]), (6, [3]), (2, [1]))
        self.check(house, 2, (10, [0]), (6, [3]), (2, [1]))

    def test_an_act_in_two_cuts(self):
        house = [begins(2, 3), act(0, 1, 5), act(0, 2, 3), act(0, 3, 6)]
        self.check(house, 0, (5, [0, 2]), (1, [1, 2]))

    def test_what_is_taken_off_stays_off(self):
        house = [begins(3, 7), act(0, 1, 4), act(0, 2, 4), act(0, 4, 4), act(0, 7, 9)]
        self.check(house, 0, (4, [0, 3]), (4, [1, 3]), (1, [2, 3]))

    def test_the_dear_fact_is_found_anew_each_time(self):
        house = [begins(3, 4), act(3, 4, 1), act(0, 1, 5), act(0, 2, 4), act(0, 1, 6)]
        self.check(house, 0, (1, [0]), (5, [1, 3]), (4, [2]))

    def test_two_ways_of_two_acts(self):
        house = [begins(4, 8), act(0, 2, 3), act(2, 8, 4), act(0, 4, 5), act(4, 8, 6)]
        self.check(house, 0, (4, [1, 3]), (2, [0, 3]), (1, [0, 2]))

    def test_together_at_least_the_dearest(self):
        house = [begins(4, 14), act(1, 2, 3), act(1, 4, 3), act(6, 8, 1)]
        self.check(house, 1, (1, [2]), (3, [0]), (3, [1]))
        self.assertEqual(ask(*house, dearest(1), together(1), real(1))[-3:], [4, 13, 7])


class LeftOut(Cuts):
    def test_acts_whose_needed_facts_cant_be_had(self):
        self.check([begins(3, 1), act(4, 1, 1), act(0, 1, 4), act(5, 1, 1)], 0, (4, [1]))
        self.check([begins(3, 1), act(6, 1, 1), act(2, 1, 4)], 2, (4, [1]))

    def test_acts_whose_dear_fact_comes_only_behind_the_zone(self):
        self.check([begins(2, 1), act(0, 1, 2), act(1, 2, 1), act(2, 1, 1)], 0, (2, [0]))

    def test_acts_from_the_zone_into_the_zone(self):
        house = [begins(3, 6), act(0, 2, 3), act(2, 4, 2), act(4, 2, 1)]
        self.check(house, 0, (2, [1]), (3, [0]))

    def test_acts_that_bring_nothing_of_the_zone(self):
        self.check([begins(3, 4), act(0, 1, 2), act(0, 3, 1), act(0, 4, 9)], 0, (9, [2]))


class TheZone(Cuts):
    def test_has_what_leads_there_for_nothing(self):
        house = [begins(3, 4), act(0, 1, 2), act(1, 2, 2), act(2, 4, 2), act(0, 2, 9), act(0, 4, 9)]
        self.check(house, 0, (2, [2, 4]), (2, [1, 3, 4]), (2, [0, 3, 4]))

    def test_is_found_in_any_order_of_acts(self):
        self.check([begins(5, 16)] + [act(2 ** k, 2 ** (k + 1), 1) for k in range(4)], 1,
                   (1, [3]), (1, [2]), (1, [1]), (1, [0]))
        self.check([begins(5, 16)] + [act(2 ** k, 2 ** (k + 1), 1) for k in reversed(range(4))], 1,
                   (1, [0]), (1, [1]), (1, [2]), (1, [3]))

    def test_an_act_brings_something_in_it_and_something_before_it(self):
        self.check([begins(2, 2), act(0, 3, 10), act(1, 2, 1)], 0, (1, [0, 1]), (9, [0]))

    def test_facts_that_bring_each_other_for_nothing(self):
        house = [begins(3, 6), act(0, 2, 5), act(2, 4, 1), act(4, 2, 1), act(0, 4, 7)]
        # Acts 1 and 2 cost nothing when the last cut is found.
        self.check(house, 0, (1, [1, 3]), (1, [0, 2]), (4, [0, 3]))

    def test_rings(self):
        ring = [begins(3, 7), act(1, 2, 1), act(2, 4, 10), act(4, 1, 100)]
        self.refused(ring, 0)
        self.check(ring, 1, (10, [1]), (1, [0]))
        self.check(ring, 2, (100, [2]), (10, [1]))
        self.check(ring, 4, (1, [0]), (100, [2]))


class CantBeHad(Cuts):
    def test_one_of_several_wanted(self):
        self.refused([begins(3, 7), act(0, 3, 1)], 0)
        self.refused([begins(3, 7), act(0, 6, 1)], 0)

    def test_a_needed_fact(self):
        self.refused([begins(3, 4), act(3, 4, 1)], 1)

    def test_told_though_something_wanted_can(self):
        self.refused([begins(2, 3), act(0, 1, 1), act(2, 2, 1)], 0)


class TakingAway(Cuts):
    def test_counts_for_nothing(self):
        for takes in range(8):
            house = [begins(3, 7), act(1, 2, 3, takes), act(1, 4, 5, takes)]
            self.check(house, 1, (5, [1]), (3, [0]))

    def test_brought_and_taken_away_is_brought(self):
        self.check([begins(2, 2), act(0, 2, 3, 2)], 0, (3, [0]))

    def test_though_there_is_really_no_plan(self):
        house = [begins(2, 3), act(0, 1, 3, 2), act(0, 2, 4, 1)]
        self.check(house, 0, (4, [1]), (3, [0]))
        self.assertEqual(last_part(*house, real(0)), [-6])


class EightFactsAndTwelveActs(Cuts):
    def test_eight_cuts_of_one_act(self):
        self.check([begins(8, 128)] + CHAIN + [act(0, 0, 1)] * 4, 0, *[(k + 1, [k]) for k in reversed(range(8))])

    def test_eight_cuts_some_of_two(self):
        more = [act(64, 128, 9), act(0, 1, 1), act(0, 0, 1, 255), act(255, 255, 1, 255)]
        found = [(8, [7, 8])] + [(k + 1, [k]) for k in reversed(range(1, 7))] + [(1, [0, 9])]
        self.check([begins(8, 128)] + CHAIN + more, 0, *found)

    def test_one_cut_of_twelve(self):
        self.check([begins(8, 255)] + [act(0, 255, 1000 - k) for k in range(12)], 0, (989, list(range(12))))

    def test_eight_cuts_of_two_acts(self):
        acts = [act(0, 2 ** k, 10) for k in range(8)] + [act(0, 3 << 2 * k, 11 + k) for k in range(4)]
        dear = [(10, [0, 8]), (10, [2, 9]), (10, [4, 10]), (10, [6, 11])]
        rest = [(4, [7, 11]), (3, [5, 10]), (2, [3, 9]), (1, [1, 8])]
        self.check([begins(8, 255)] + acts, 0, *dear, *rest)


class AskingChangesNothing(Cuts):
    def test_prices_are_the_costs_again(self):
        house = [begins(3, 6), act(0, 2, 5), act(2, 4, 1), act(4, 2, 1), act(0, 4, 7)]
        questions = [dearest(0), together(0), kept(0), cuts(0), real(0), values(0)]
        for question in questions:
            before = last_part(*house, question)
            self.assertEqual(last_part(*house, cuts(0), cuts(0), question), before, question)


if __name__ == "__main__":
    unittest.main()
