import unittest

from calling import act, begins, dearest, goal, kept, last_part, real, together

TOWER = [act(2 ** k - 1, 2 ** k, 1000, 2 ** k - 1) for k in range(8)]


class Kept(unittest.TestCase):
    def check(self, house, state, *answer):
        self.assertEqual(last_part(*house, kept(state)), list(answer))


class NothingToDo(Kept):
    def test_nothing_wanted(self):
        for state in range(8):
            self.check([begins(3, 0), act(0, 7, 5)], state, 0)

    def test_so_already(self):
        self.check([begins(3, 5), act(0, 5, 9)], 5, 0)
        self.check([begins(3, 5), act(5, 5, 1, 5)], 7, 0)

    def test_no_acts(self):
        self.check([begins(2, 1)], 1, 0)
        self.check([begins(2, 0)], 0, 0)
        self.check([begins(2, 1)], 2, -6)


class Plans(Kept):
    def test_one_act(self):
        self.check([begins(2, 2), act(1, 2, 7)], 1, 7, 0)

    def test_one_behind_another(self):
        house = [begins(4, 8), act(4, 8, 1), act(2, 4, 10), act(1, 2, 100)]
        self.check(house, 1, 111, 2, 1, 0)
        self.check(house, 2, 11, 1, 0)
        self.check(house, 5, 1, 0)

    def test_an_act_that_needs_nothing(self):
        self.check([begins(2, 2), act(1, 2, 1), act(0, 2, 6)], 0, 6, 1)
        self.check([begins(2, 2), act(1, 2, 1), act(0, 2, 6)], 1, 1, 0)

    def test_an_act_that_needs_several(self):
        house = [begins(4, 8), act(7, 8, 10), act(0, 1, 2), act(0, 2, 3), act(0, 4, 5)]
        self.check(house, 0, 20, 1, 2, 3, 0)
        self.check(house, 2, 17, 1, 3, 0)

    def test_an_act_that_brings_several_is_paid_once(self):
        self.check([begins(3, 7), act(0, 7, 4)], 0, 4, 0)

    def test_what_several_acts_need_is_paid_once(self):
        house = [begins(4, 12), act(1, 4, 1), act(1, 8, 2), act(0, 1, 5)]
        self.check(house, 0, 8, 2, 0, 1)
        self.assertEqual(last_part(*house, dearest(0)), [7])
        self.assertEqual(last_part(*house, together(0)), [13])

    def test_what_isnt_needed_isnt_done(self):
        self.check([begins(3, 4), act(0, 1, 1), act(0, 2, 1), act(0, 4, 9)], 0, 9, 2)

    def test_an_act_that_brings_nothing(self):
        self.check([begins(1, 1), act(0, 0, 1), act(0, 0, 1, 1), act(0, 1, 3)], 0, 3, 2)
        self.check([begins(1, 1), act(0, 0, 1), act(0, 0, 1, 1)], 0, -6)

    def test_an_act_that_brings_what_is_so(self):
        self.check([begins(2, 2), act(1, 1, 1), act(1, 2, 5)], 1, 5, 1)

    def test_facts_that_bring_each_other(self):
        ring = [begins(3, 7), act(1, 2, 1), act(2, 4, 10), act(4, 1, 100)]
        self.check(ring, 0, -6)
        self.check(ring, 1, 11, 0, 1)
        self.check(ring, 2, 110, 1, 2)
        self.check(ring, 4, 101, 2, 0)
        self.check(ring + [act(0, 2, 1000)], 0, 1110, 3, 1, 2)

    def test_what_is_wanted_may_change(self):
        house = [begins(3, 1), act(0, 1, 2), act(1, 2, 3), act(2, 4, 4)]
        self.check(house, 0, 2, 0)
        self.check(house + [goal(4)], 0, 9, 0, 1, 2)
        self.check(house + [goal(0)], 0, 0)


class TheCheapest(Kept):
    def test_a_longer_plan_may_be(self):
        house = [begins(3, 4), act(0, 4, 10), act(2, 4, 3), act(1, 2, 3), act(0, 1, 3)]
        self.check(house, 0, 9, 3, 2, 1)

    def test_a_shorter_plan_may_be(self):
        house = [begins(3, 4), act(0, 1, 3), act(1, 2, 3), act(2, 4, 3), act(0, 4, 8)]
        self.check(house, 0, 8, 3)

    def test_two_for_the_price_of_one(self):
        self.check([begins(2, 3), act(0, 1, 5), act(0, 2, 3), act(0, 3, 6)], 0, 6, 2)
        self.check([begins(2, 3), act(0, 1, 5), act(0, 2, 3), act(0, 3, 9)], 0, 8, 0, 1)

    def test_eight_facts_and_twelve_acts(self):
        self.check([begins(8, 255)] + TOWER + [act(0, 0, 1)] * 4, 0, 8000, 0, 1, 2, 3, 4, 5, 6, 7)
        apart = [act(0, 2 ** k, k + 1) for k in reversed(range(8))]
        more = [act(0, 3, 2), act(0, 48, 12), act(3, 192, 12), act(255, 255, 1, 255)]
        self.check([begins(8, 255)] + apart + more, 0, 32, 2, 3, 4, 5, 8, 10)


class SeveralCheapest(Kept):
    def test_of_two_equal_acts_the_lower(self):
        self.check([begins(1, 1), act(0, 1, 4), act(0, 1, 4)], 0, 4, 0)
        self.check([begins(1, 1), act(0, 1, 5), act(0, 1, 4), act(0, 1, 4)], 0, 4, 1)

    def test_of_two_orders_the_lower_act_first(self):
        self.check([begins(2, 3), act(0, 1, 2), act(0, 2, 2)], 0, 4, 0, 1)
        self.check([begins(2, 3), act(0, 2, 2), act(0, 1, 2)], 0, 4, 0, 1)

    def test_not_the_shortest(self):
        self.check([begins(2, 3), act(0, 1, 2), act(0, 2, 2), act(0, 3, 4)], 0, 4, 0, 1)
        self.check([begins(2, 3), act(0, 1, 2), act(0, 3, 4), act(0, 2, 2)], 0, 4, 0, 2)

    def test_not_the_longest(self):
        self.check([begins(2, 3), act(0, 3, 4), act(0, 1, 2), act(0, 2, 2)], 0, 4, 0)

    def test_the_first_place_decides(self):
        house = [begins(4, 8), act(4, 8, 9), act(0, 2, 1), act(0, 4, 1), act(2, 8, 9)]
        self.check(house, 0, 10, 1, 3)

    def test_a_later_place_decides(self):
        house = [begins(4, 12), act(0, 1, 3), act(1, 8, 2), act(1, 4, 2), act(1, 8, 2), act(1, 4, 2)]
        self.check(house, 0, 7, 0, 1, 2)

    def test_the_lowest_act_as_soon_as_it_may_be_done(self):
        house = [begins(3, 7), act(4, 1, 1), act(0, 2, 1), act(0, 4, 1)]
        self.check(house, 0, 3, 1, 2, 0)
        self.check(house + [act(0, 6, 2)], 0, 3, 1, 2, 0)
        self.check(house, 2, 2, 2, 0)

    def test_all_orders_of_eight(self):
        self.check([begins(8, 255)] + [act(0, 2 ** k, 7) for k in (3, 1, 4, 0, 5, 2, 6, 7)], 0,
                   56, 0, 1, 2, 3, 4, 5, 6, 7)


class TakingAway(Kept):
    def test_counts_for_nothing(self):
        for takes in range(8):
            self.check([begins(3, 7), act(1, 2, 3, takes), act(1, 4, 5, takes)], 1, 8, 0, 1)

    def test_a_plan_that_there_really_isnt(self):
        house = [begins(2, 3), act(0, 1, 3, 2), act(0, 2, 4, 1)]
        self.check(house, 0, 7, 0, 1)
        self.assertEqual(last_part(*house, real(0)), [-6])

    def test_brought_and_taken_away_is_brought(self):
        self.check([begins(2, 3), act(0, 2, 3, 2), act(2, 1, 4, 3)], 0, 7, 0, 1)


if __name__ == "__main__":
    unittest.main()
