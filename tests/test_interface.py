import unittest

from calling import HUGE, act, ask, begins, cuts, dearest, flat, goal, kept, parts, real, split, told, together, values
from planestimates.estimates import answers

MIXED = flat([
    dearest(1), values(0), goal(1), together(0), cuts(0), act(0, 1, 7), together(0), values(1), begins(3, 6), told(),
    act(1, 2, 4, 1), dearest(1), kept(1), act(1, 4, 5), together(1), cuts(1), kept(1), real(1), dearest(1), dearest(8),
    real(8), begins(9, 0), goal(8), goal(4), together(1), real(1), values(1), kept(8), cuts(HUGE), values(8), goal(0),
    kept(0), cuts(0), real(0),
])
MIXED_ANSWERS = [
    [0], [1, 0], [0], [-6], [-6], [0], [7], [1, 1, 0], [0], [-1],
    [0], [-6], [-6], [1], [9], [9, 2, 5, 1, 1, 4, 1, 0], [9, 0, 1], [9], [5], [-1],
    [-1], [-1], [-1], [0], [5], [5], [3, 1, 0, 1, 4, 1, 5], [-1], [-1], [-1], [0],
    [0], [0, 0], [0],
]
MIXED_ANSWER = flat([len(answer)] + answer for answer in MIXED_ANSWERS)


class FlatLists(unittest.TestCase):
    def test_written_out(self):
        calls = [0, 3, 6, 1, 5, 1, 0, 2, 1, 4, 1, 5, 1, 0, 4, 0, 5, 3, 1, 4, 1]
        self.assertEqual(answers(calls), [1, 0, 1, 0, 1, 1, 1, 5, 1, 9])

    def test_longer_answers_written_out(self):
        calls = [0, 3, 6, 1, 5, 1, 0, 2, 0, 4, 1, 5, 1, 0, 4, 0, 5, 5, 1, 6, 1, 7, 1, 8, 1]
        self.assertEqual(answers(calls), [1, 0, 1, 0, 1, 1, 3, 9, 0, 1, 8, 9, 2, 5, 1, 1, 4, 1, 0, 1, 9,
                                          7, 3, 1, 0, 1, 4, 1, 5])

    def test_several_calls_in_any_order(self):
        self.assertEqual(answers(list(MIXED)), MIXED_ANSWER)

    def test_any_call_first(self):
        firsts = [([0, 1, 1], 0), ([0, 9, 0], -1), ([1, 0], -1), ([1, 5, 0, 0, 1, 0, 1], 0), ([2, 1], 0),
                  ([2, 2], -1), ([3, 0], 0), ([3, HUGE], -1), ([4, 1], 0), ([4, 2], -1), ([5, 0], 0),
                  ([5, 2], -1), ([6, 2], -1), ([7, 1], 0), ([7, HUGE], -1), ([8, 2], -1)]
        for call, answer in firsts:
            self.assertEqual(answers(list(call)), [1, answer], call)
        self.assertEqual(answers([6, 1]), [2, 0, 0])
        self.assertEqual(answers([8, 0]), [2, 1, 0])
        self.assertEqual(answers([8, 1]), [3, 1, 1, 0])

    def test_numbers_within_a_call_arent_calls(self):
        self.assertEqual(answers([1, 6, 0, 1, 2, 3, 4, 0, 3, 3, 1, 1, 4]), [1, -1, 1, -1, 1, -1])
        self.assertEqual(answers([5, 5, 6, 6, 7, 7, 8, 8]), [1, -1] * 4)
        self.assertEqual(answers([0, 8, 8, 5, 8, 6, 8, 7, 8, 8, 0]),
                         [1, 0, 1, 0, 2, 0, 0, 1, 0, 9, 8, 0, 0, 0, 0, 0, 0, 0, 0])

    def test_sixty_calls(self):
        rows = [told(*[HUGE] * 6)] * 59
        self.assertEqual(ask(*rows, dearest(0)), [-1] * 59 + [0])

    def test_sixty_calls_on_the_greatest_house(self):
        house = [begins(8, 255)] + [act(2 ** k - 1, 2 ** k, 1000, 2 ** k - 1) for k in range(8)]
        house += [act(255, 255, 1000, 255)] * 4
        questions = [kept(0), real(0)] * 6 + [cuts(0)] * 20 + [values(0)] * 15
        told_by_all = parts(*house, *questions)
        self.assertEqual(len(told_by_all), 60)
        self.assertEqual(told_by_all[13:15], [[8000, 0, 1, 2, 3, 4, 5, 6, 7], [255000]])
        for number, question in enumerate(questions):
            self.assertEqual(told_by_all[13 + number], parts(*house, question)[-1], question)

    def test_whole_numbers_in_a_list(self):
        given = answers(list(MIXED))
        self.assertIs(type(given), list)
        self.assertEqual({type(number) for number in given}, {int})

    def test_nothing_below_0_but_a_refusal_alone(self):
        for answer in split(answers(list(MIXED))):
            self.assertTrue(min(answer) >= 0 or answer in ([-1], [-6], [-7]), answer)


class WatchedList(list):
    """Tells when somebody changes it, even if it is changed back."""

    def refuse(self, *args, **kwargs):
        raise AssertionError("what was handed in was changed")

    append = extend = insert = pop = remove = clear = sort = reverse = refuse
    __setitem__ = __delitem__ = __iadd__ = __imul__ = refuse


class WhatIsHandedIn(unittest.TestCase):
    def test_stays_as_it_was(self):
        calls = list(MIXED)
        answers(calls)
        self.assertEqual(calls, MIXED)

    def test_isnt_changed_for_a_while_either(self):
        self.assertEqual(answers(WatchedList(MIXED)), MIXED_ANSWER)


class NothingIsKept(unittest.TestCase):
    def test_the_same_list_twice(self):
        calls = list(MIXED)
        self.assertEqual(answers(calls), answers(calls))

    def test_a_new_house_each_time(self):
        answers(flat([begins(8, 255)] + [act(0, 255, 1)] * 12))
        self.assertEqual(ask(dearest(1), dearest(2), goal(1), dearest(0), act(0, 1, 1)), [0, -1, 0, -6, 0])
        self.assertEqual(parts(values(0), kept(0), cuts(0), real(2)), [[1, 0], [0], [0, 0], [-1]])

    def test_an_answer_is_the_callers_own(self):
        first = answers(list(MIXED))
        first.clear()
        self.assertEqual(answers(list(MIXED)), MIXED_ANSWER)


if __name__ == "__main__":
    unittest.main()
