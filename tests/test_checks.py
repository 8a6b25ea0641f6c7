"""checks: how many checks there are, and their numbers."""

import unittest

from tests.helper import (
    ALWAYS, NEVER, alone, apart, ask, begins, check, checks, clash, each, fine, gone, letters, number, run, value)

BROKEN = check(ALWAYS, NEVER)


class Checks(unittest.TestCase):
    def test_none(self):
        self.assertEqual(ask(checks()), [[0]])
        self.assertEqual(ask(checks(), checks()), [[0], [0]])

    def test_one_by_one_up_to_eight(self):
        calls, wanted = [], []
        for k in range(8):
            calls += [BROKEN, checks()]
            wanted += [[k], [k + 1] + list(range(k + 1))]
        self.assertEqual(ask(*calls), wanted)

    def test_after_a_ninth_is_refused(self):
        self.assertEqual(ask(*[BROKEN] * 9, checks())[8:], [[-5], [8, 0, 1, 2, 3, 4, 5, 6, 7]])

    def test_after_some_are_gone(self):
        answered = ask(
            BROKEN, BROKEN, BROKEN, gone(1), checks(), BROKEN, checks(), gone(0), gone(3), checks(), gone(2), checks(),
            BROKEN, checks())
        self.assertEqual(
            answered[3:], [[2], [2, 0, 2], [3], [3, 0, 2, 3], [2], [1], [1, 2], [0], [0], [4], [1, 4]])

    def test_eight_after_some_are_gone(self):
        answered = ask(*[BROKEN] * 8, gone(0), gone(7), gone(4), BROKEN, BROKEN, BROKEN, checks())
        self.assertEqual(answered[14], [8, 1, 2, 3, 5, 6, 8, 9, 10])

    def test_which_are_broken_does_not_matter(self):
        answered = ask(check(NEVER, NEVER), BROKEN, check(begins(0, 7), ALWAYS), checks())
        self.assertEqual(answered[3], [3, 0, 1, 2])

    def test_refused_calls_and_questions_change_nothing(self):
        for call in (
                check(begins(0, 100), ALWAYS), gone(5), letters([]), letters([4]), run([], []), run([100], []),
                value([], [], number(1)), fine(0), fine(5), alone(0, 1), alone(5, 1), apart(0, 1, 1), apart(0, 5, 1),
                clash(1), clash(5), each(1, []), each(5, [])):
            answered = ask(BROKEN, BROKEN, gone(0), BROKEN, call, checks(), BROKEN, checks())
            self.assertEqual(answered[5:], [[2, 1, 2], [3], [3, 1, 2, 3]], call)


if __name__ == "__main__":
    unittest.main()
