"""letters: what is taken, what is refused, and which letters hold then."""

import unittest

from tests.helper import ALWAYS, LARGEST, ask, at_most, check, fine, length, letters, number, run

TWO_WORDS = check(ALWAYS, at_most(number(2), length(0)))


class Taken(unittest.TestCase):
    def test_answers_how_many(self):
        for row in ([0], [99], [0, 1], [3, 7, 8], [1, 2, 3, 4], [0, 20, 40, 60, 99]):
            self.assertEqual(ask(letters(row)), [[len(row)]])

    def test_letters_are_0_and_1_at_the_beginning(self):
        self.assertEqual(ask(TWO_WORDS, fine(2))[1], [2, 0, 0, 0])
        self.assertEqual(ask(fine(4), letters([0, 1, 2]), fine(4)), [[0, 0], [3], [-1]])

    def test_letters_told_are_those_of_the_pairs(self):
        self.assertEqual(ask(TWO_WORDS, letters([6, 99]), fine(2))[2], [2, 6, 6, 0])

    def test_letters_told_last_hold(self):
        self.assertEqual(ask(TWO_WORDS, letters([6]), letters([9]), fine(2))[3], [2, 9, 9, 0])

    def test_letters_do_not_bind_run(self):
        self.assertEqual(ask(TWO_WORDS, letters([6]), run([50], []), run([50, 51], [52]))[2:], [[1, 0], [0]])


class Refusals(unittest.TestCase):
    def assert_refused(self, row):
        answered = ask(TWO_WORDS, letters([6]), letters(row), fine(3), run([1], []))
        self.assertEqual(answered[2:], [[-1], [2, 6, 6, 0], [1, 0]], row)

    def test_none(self):
        self.assert_refused([])

    def test_more_than_5(self):
        self.assert_refused([0, 1, 2, 3, 4, 5])
        self.assert_refused(list(range(40)))

    def test_one_above_99(self):
        for row in ([100], [LARGEST], [0, 100], [95, 96, 97, 98, 100], [100, 101]):
            self.assert_refused(row)

    def test_equal_ones(self):
        for row in ([0, 0], [3, 4, 4], [3, 3, 4], [1, 2, 3, 4, 4]):
            self.assert_refused(row)

    def test_falling_ones(self):
        for row in ([1, 0], [3, 5, 4], [5, 3, 6], [1, 2, 3, 4, 0], [99, 98]):
            self.assert_refused(row)

    def test_letters_of_the_beginning_stay(self):
        self.assertEqual(ask(TWO_WORDS, letters([7, 7]), fine(4))[1:], [[-1], [2, 0, 0, 0]])


if __name__ == "__main__":
    unittest.main()
