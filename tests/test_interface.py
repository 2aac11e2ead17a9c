import unittest

from calling import HUGE, act, ask, begins, dearest, flat, goal, told, together
from planestimates.estimates import answers

MIXED = flat([
    dearest(1), goal(1), together(0), act(0, 1, 7), together(0), begins(3, 6), told(), act(1, 2, 4, 1),
    dearest(1), act(1, 4, 5), together(1), dearest(1), dearest(8), begins(9, 0), goal(8), goal(4), together(1),
])
MIXED_ANSWER = flat([1, number] for number in [0, 0, -6, 0, 7, 0, -1, 0, -6, 1, 9, 5, -1, -1, -1, 0, 5])


class FlatLists(unittest.TestCase):
    def test_written_out(self):
        calls = [0, 3, 6, 1, 5, 1, 0, 2, 1, 4, 1, 5, 1, 0, 4, 0, 5, 3, 1, 4, 1]
        self.assertEqual(answers(calls), [1, 0, 1, 0, 1, 1, 1, 5, 1, 9])

    def test_several_calls_in_any_order(self):
        self.assertEqual(answers(list(MIXED)), MIXED_ANSWER)

    def test_any_call_first(self):
        firsts = [([0, 1, 1], 0), ([0, 9, 0], -1), ([1, 0], -1), ([1, 5, 0, 0, 1, 0, 1], 0), ([2, 1], 0),
                  ([2, 2], -1), ([3, 0], 0), ([3, HUGE], -1), ([4, 1], 0), ([4, 2], -1)]
        for call, answer in firsts:
            self.assertEqual(answers(list(call)), [1, answer], call)

    def test_numbers_within_a_call_arent_calls(self):
        self.assertEqual(answers([1, 6, 0, 1, 2, 3, 4, 0, 3, 3, 1, 1, 4]), [1, -1, 1, -1, 1, -1])

    def test_sixty_calls(self):
        rows = [told(*[HUGE] * 6)] * 59
        self.assertEqual(ask(*rows, dearest(0)), [-1] * 59 + [0])

    def test_whole_numbers_in_a_list(self):
        given = answers(list(MIXED))
        self.assertIs(type(given), list)
        self.assertEqual({type(number) for number in given}, {int})


class WatchedList(list):
    """Tells when somebody changes it, even if it is changed back."""

    def refuse(self, *args, **kwargs):
        raise AssertionError("what was handed in was changed")

    append = extend = insert = pop = remove = clear = sort = reverse = refuse
    __setitem__ = __delitem__ = __iadd__ = __imul__ = refuse


class WhatIsHandedIn(unittest.TestCase):
    def test_stays_as_it_was(self):
        calls = list(MIXED)
        answers(calls)
        self.assertEqual(calls, MIXED)

    def test_isnt_changed_for_a_while_either(self):
        self.assertEqual(answers(WatchedList(MIXED)), MIXED_ANSWER)


class NothingIsKept(unittest.TestCase):
    def test_the_same_list_twice(self):
        calls = list(MIXED)
        self.assertEqual(answers(calls), answers(calls))

    def test_a_new_house_each_time(self):
        answers(flat([begins(8, 255)] + [act(0, 255, 1)] * 12))
        self.assertEqual(ask(dearest(1), dearest(2), goal(1), dearest(0), act(0, 1, 1)), [0, -1, 0, -6, 0])

    def test_an_answer_is_the_callers_own(self):
        first = answers(list(MIXED))
        first.clear()
        self.assertEqual(answers(list(MIXED)), MIXED_ANSWER)


if __name__ == "__main__":
    unittest.main()
