import unittest

from calling import HUGE, act, ask, begins, dearest, goal, together


class WithinTheFacts(unittest.TestCase):
    def test_every_set(self):
        for facts in range(1, 9):
            for wanted in range(2 ** facts):
                calls = [begins(facts, 0), goal(wanted), dearest(wanted), dearest(0)]
                self.assertEqual(ask(*calls), [0, 0, 0, -6 if wanted else 0])

    def test_replaces_what_was_wanted(self):
        calls = [begins(2, 1), act(0, 1, 3), act(0, 2, 8), dearest(0), goal(2), dearest(0),
                 goal(3), dearest(0), together(0), goal(0), dearest(0), together(0)]
        self.assertEqual(ask(*calls), [0, 0, 1, 3, 0, 8, 0, 8, 11, 0, 0, 0])

    def test_leaves_acts_and_facts(self):
        calls = [begins(2, 0), act(0, 2, 8), goal(2), act(0, 2, 5), dearest(0), dearest(4)]
        self.assertEqual(ask(*calls), [0, 0, 0, 1, 5, -1])


class BeyondTheFacts(unittest.TestCase):
    def test_is_refused(self):
        for facts in range(1, 9):
            for wanted in (2 ** facts, 2 ** facts + 1, 2 ** 31, HUGE):
                self.assertEqual(ask(begins(facts, 0), goal(wanted)), [0, -1], (facts, wanted))

    def test_leaves_what_was_wanted(self):
        for wrong in (4, 5, 256, HUGE):
            calls = [begins(2, 2), act(1, 2, 8), goal(wrong), dearest(1), together(1), dearest(0), act(0, 2, 1)]
            self.assertEqual(ask(*calls), [0, 0, -1, 8, 8, -6, 1], wrong)


if __name__ == "__main__":
    unittest.main()
