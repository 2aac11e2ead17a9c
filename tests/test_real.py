import unittest

from calling import act, begins, goal, kept, last_part, real

TOWER = [act(2 ** k - 1, 2 ** k, 1000, 2 ** k - 1) for k in range(8)]


class Real(unittest.TestCase):
    def check(self, house, state, cost):
        self.assertEqual(last_part(*house, real(state)), [cost])


class NothingToDo(Real):
    def test_nothing_wanted(self):
        for state in range(8):
            self.check([begins(3, 0), act(0, 7, 5)], state, 0)

    def test_so_already(self):
        self.check([begins(3, 5), act(0, 5, 9)], 5, 0)
        self.check([begins(3, 5), act(5, 2, 1, 5)], 7, 0)

    def test_no_acts(self):
        self.check([begins(2, 1)], 1, 0)
        self.check([begins(2, 0)], 0, 0)
        self.check([begins(2, 1)], 2, -6)
        self.check([begins(8, 255)], 254, -6)


class NothingTakenAway(Real):
    def test_one_behind_another(self):
        house = [begins(4, 8), act(4, 8, 1), act(2, 4, 10), act(1, 2, 100)]
        self.check(house, 1, 111)
        self.check(house, 2, 11)
        self.check(house, 0, -6)

    def test_an_act_that_needs_nothing(self):
        self.check([begins(2, 2), act(1, 2, 1), act(0, 2, 6)], 0, 6)
        self.check([begins(2, 2), act(1, 2, 1), act(0, 2, 6)], 1, 1)

    def test_an_act_that_needs_several(self):
        house = [begins(4, 8), act(7, 8, 10), act(0, 1, 2), act(0, 2, 3), act(0, 4, 5)]
        self.check(house, 0, 20)
        self.check(house, 2, 17)

    def test_an_act_that_brings_nothing(self):
        self.check([begins(1, 1), act(0, 0, 1), act(0, 1, 3)], 0, 3)
        self.check([begins(1, 1), act(0, 0, 1)], 0, -6)

    def test_facts_that_bring_each_other(self):
        ring = [begins(3, 7), act(1, 2, 1), act(2, 4, 10), act(4, 1, 100)]
        self.check(ring, 0, -6)
        self.check(ring, 1, 11)
        self.check(ring, 2, 110)
        self.check(ring, 4, 101)

    def test_the_cheapest_of_several(self):
        self.check([begins(3, 4), act(0, 4, 10), act(2, 4, 3), act(1, 2, 3), act(0, 1, 3)], 0, 9)
        self.check([begins(3, 4), act(0, 4, 8), act(2, 4, 3), act(1, 2, 3), act(0, 1, 3)], 0, 8)
        self.check([begins(2, 3), act(0, 1, 5), act(0, 2, 3), act(0, 3, 6)], 0, 6)

    def test_a_cheaper_way_found_later(self):
        house = [begins(4, 8), act(0, 4, 50), act(0, 1, 1), act(1, 2, 1), act(2, 4, 1), act(4, 8, 5)]
        self.check(house, 0, 8)

    def test_a_dearer_way_found_later(self):
        self.check([begins(2, 2), act(0, 1, 1), act(0, 2, 3), act(1, 2, 9, 1)], 0, 3)


class TakingAway(Real):
    def test_what_is_taken_must_be_brought_again(self):
        house = [begins(2, 3), act(1, 2, 3, 1), act(0, 1, 5)]
        self.check(house, 1, 8)
        self.check(house, 0, 13)
        self.check(house, 2, 5)
        self.assertEqual(last_part(*house, kept(1)), [3, 0])

    def test_what_is_needed_may_be_taken(self):
        self.check([begins(3, 6), act(1, 2, 3, 1), act(1, 4, 5, 1)], 1, -6)
        self.check([begins(3, 6), act(1, 2, 3, 1), act(1, 4, 5)], 1, 8)

    def test_only_as_if_nothing_were_taken_away(self):
        house = [begins(2, 3), act(0, 1, 3, 2), act(0, 2, 4, 1)]
        self.check(house, 0, -6)
        self.check(house, 1, -6)
        self.check(house, 3, 0)
        self.assertEqual(last_part(*house, kept(0)), [7, 0, 1])

    def test_a_dearer_act_that_takes_nothing(self):
        house = [begins(2, 3), act(0, 1, 3, 2), act(0, 2, 4, 1), act(0, 2, 100)]
        self.check(house, 0, 103)
        self.check(house, 2, 103)

    def test_brought_and_taken_away_is_brought(self):
        self.check([begins(2, 2), act(0, 2, 3, 2)], 0, 3)
        self.check([begins(2, 3), act(0, 2, 3, 2), act(2, 1, 4, 3)], 0, 10)
        self.check([begins(2, 3), act(0, 2, 3, 2), act(2, 3, 4, 3)], 0, 7)

    def test_taken_away_though_it_wasnt_so(self):
        self.check([begins(3, 3), act(0, 1, 3, 4), act(0, 2, 4, 4)], 0, 7)

    def test_an_act_that_only_takes_away(self):
        self.check([begins(2, 1), act(0, 0, 1, 2), act(0, 1, 1, 3)], 2, 1)
        self.check([begins(2, 3), act(0, 0, 1, 2)], 1, -6)

    def test_wanted_on_the_way_but_not_behind_it(self):
        house = [begins(3, 5), act(0, 1, 1), act(1, 2, 1, 1), act(2, 4, 1, 2)]
        self.check(house, 0, 4)
        self.check(house, 1, 3)


class EightFactsAndTwelveActs(Real):
    def test_through_all_states(self):
        house = [begins(8, 255)] + TOWER
        self.check(house, 0, 255000)
        self.check(house, 127, 128000)
        self.check(house, 254, 1000)
        self.check(house + [goal(128)], 0, 128000)
        self.assertEqual(last_part(*house, kept(0)), [8000, 0, 1, 2, 3, 4, 5, 6, 7])

    def test_with_four_more(self):
        house = [begins(8, 255)] + TOWER
        self.check(house + [act(0, 0, 1, 255)] * 4, 0, 255000)
        self.check(house + [act(0, 0, 1)] * 3 + [act(15, 16, 1)], 0, 127008)

    def test_no_plan_in_any_of_them(self):
        free = [act(0, 2 ** k, 1) for k in range(7)]
        self.check([begins(8, 255)] + free + [act(127, 128, 1, 1)], 0, 9)
        self.check([begins(8, 255)] + free[1:] + [act(127, 128, 1, 1), act(0, 1, 1, 128)], 0, -6)

    def test_twelve_calls(self):
        house = [begins(8, 255)] + TOWER + [act(255, 255, 1, 255)] * 4
        self.assertEqual(last_part(*house, *[real(0)] * 11, real(128)), [127000])


if __name__ == "__main__":
    unittest.main()
