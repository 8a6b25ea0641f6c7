"""alone: the first pair that breaks one check and no other, and its refusals."""

import unittest

from tests.helper import (
    ALWAYS, LARGEST, NEVER, alone, ask, asked_of, at_most, begins, broken_at, check, checks, ends, followed, gone,
    length, letters, number, opposite, pairs, run, told)

BROKEN = check(ALWAYS, NEVER)
NEVER_BROKEN = check(ALWAYS, ALWAYS)


class FirstPair(unittest.TestCase):
    def test_only_check(self):
        self.assertEqual(ask(BROKEN, alone(0, 4))[1], [0, 0])
        self.assertEqual(ask(asked_of(opposite(begins(0, 1))), alone(0, 4))[1], [1, 1, 0])
        self.assertEqual(ask(asked_of(opposite(ends(1, 1))), alone(0, 4))[1], [0, 1, 1])

    def test_n_0(self):
        answered = ask(asked_of(at_most(number(1), length(0))), NEVER_BROKEN, alone(0, 0), alone(1, 0))
        self.assertEqual(answered[2:], [[0, 0], [-6]])

    def test_pairs_that_break_another_too_are_passed_over(self):
        first = asked_of(at_most(length(0), number(0)))
        second = asked_of(opposite(begins(0, 0)))
        answered = ask(first, second, alone(0, 2), alone(1, 2))
        self.assertEqual(answered[2:], [[1, 1, 0], [-6]])

    def test_any_other_check_counts(self):
        """Not only the one before or behind it, and not only one at a time."""
        in_order = pairs([0, 1], 1)
        for which in range(3):
            answered = ask(
                *[broken_at(*in_order) if k == which else broken_at(in_order[2 * k], in_order[2 * k + 1])
                  for k in range(3)],
                alone(which, 1))
            others = [in_order[2 * k + part] for k in range(3) if k != which for part in (0, 1)]
            self.assertEqual(answered[3], told([pair for pair in in_order if pair not in others][0]))

    def test_pair_that_breaks_none_is_not_it(self):
        answered = ask(asked_of(followed(1, 0, 1)), NEVER_BROKEN, alone(0, 3), alone(1, 3))
        self.assertEqual(answered[2:], [[0, 1, 0], [-6]])

    def test_order_of_the_pairs(self):
        in_order = pairs([2, 5], 2)
        for first, later in zip(in_order, in_order[1:]):
            answered = ask(
                letters([2, 5]), broken_at(later, first), broken_at(first), alone(0, 2), alone(1, 2), gone(1),
                alone(0, 2))
            self.assertEqual(answered[3:], [told(later), [-6], [1], told(first)])

    def test_last_pair_of_31_sentences(self):
        words = [9, 9]
        answered = ask(letters([1, 3, 5, 7, 9]), broken_at((words, words)), alone(0, 2))
        self.assertEqual(answered[2], [2, 9, 9, 2, 9, 9])

    def test_checks_that_are_gone_do_not_count(self):
        answered = ask(BROKEN, BROKEN, BROKEN, alone(1, 1), gone(0), alone(1, 1), gone(2), alone(1, 1))
        self.assertEqual(answered[3:], [[-6], [2], [-6], [1], [0, 0]])

    def test_eight_checks(self):
        in_order = pairs([0, 1], 1)
        rows = [broken_at(in_order[0], in_order[k + 1]) for k in range(8)]
        for which in range(8):
            self.assertEqual(ask(*rows, alone(which, 1))[8], told(in_order[which + 1]))

    def test_letters_told_last_hold(self):
        answered = ask(asked_of(at_most(length(0), number(0))), alone(0, 1), letters([6]), alone(0, 1))
        self.assertEqual(answered[1:], [[1, 0, 0], [1], [1, 6, 0]])


class NoPair(unittest.TestCase):
    def test_nothing_breaks_it(self):
        for n in range(5):
            self.assertEqual(ask(NEVER_BROKEN, alone(0, n))[1], [-6])

    def test_others_say_it_already(self):
        narrow = check(begins(0, 0), ends(1, 1))
        wide = asked_of(ends(1, 1))
        answered = ask(narrow, wide, alone(0, 3), alone(1, 3), gone(1), alone(0, 3))
        self.assertEqual(answered[2:], [[-6], [0, 0], [1], [1, 0, 0]])

    def test_two_others_say_it_together(self):
        answered = ask(
            check(ALWAYS, ends(1, 1)), check(begins(0, 0), ends(1, 1)), check(opposite(begins(0, 0)), ends(1, 1)),
            alone(0, 3), gone(2), alone(0, 3))
        self.assertEqual(answered[3:], [[-6], [2], [0, 0]])

    def test_same_check_twice(self):
        self.assertEqual(ask(BROKEN, BROKEN, alone(0, 2), alone(1, 2))[2:], [[-6], [-6]])

    def test_too_few_words(self):
        longer = asked_of(at_most(length(1), number(3)))
        self.assertEqual(ask(longer, alone(0, 3), alone(0, 4))[1:], [[-6], [0, 4, 0, 0, 0, 0]])

    def test_word_that_is_no_letter(self):
        answered = ask(asked_of(opposite(begins(1, 2))), alone(0, 4), letters([0, 2]), alone(0, 4))
        self.assertEqual(answered[1:], [[-6], [2], [0, 1, 2]])

    def test_all_is_as_it_was(self):
        answered = ask(
            BROKEN, BROKEN, letters([3]), alone(0, 4), checks(), run([], []), gone(1), alone(0, 4), BROKEN)
        self.assertEqual(answered[3:], [[-6], [2, 0, 1], [2, 0, 1], [1], [0, 0], [2]])


class Refusals(unittest.TestCase):
    def test_no_such_check(self):
        self.assertEqual(ask(alone(0, 0)), [[-2]])
        for which in (1, 2, 99, LARGEST):
            self.assertEqual(ask(BROKEN, alone(which, 4))[1], [-2])
        self.assertEqual(ask(BROKEN, BROKEN, gone(0), alone(0, 4), alone(1, 4))[3:], [[-2], [0, 0]])

    def test_n_at_4_and_5(self):
        for row in ([7], [3, 4]):
            for n, answer in ((4, [0, 0]), (5, [-1]), (100, [-1]), (LARGEST, [-1])):
                self.assertEqual(ask(letters(row), BROKEN, alone(0, n))[2], answer)

    def test_31_sentences_and_more(self):
        for size, largest in ((1, 4), (2, 4), (3, 2), (4, 2), (5, 2)):
            for n in range(7):
                answer = [0, 0] if n <= largest else [-1]
                self.assertEqual(ask(letters(list(range(size))), BROKEN, alone(0, n))[2], answer, (size, n))

    def test_no_such_check_is_told_ahead_of_n(self):
        for n in (5, LARGEST):
            self.assertEqual(ask(BROKEN, alone(1, n), alone(0, n))[1:], [[-2], [-1]])
        self.assertEqual(ask(letters([1, 2, 3]), alone(0, 3)), [[3], [-2]])

    def test_n_is_told_ahead_of_no_pair(self):
        self.assertEqual(ask(NEVER_BROKEN, alone(0, 5), alone(0, 4))[1:], [[-1], [-6]])

    def test_all_is_as_it_was(self):
        answered = ask(
            letters([6, 7, 8]), asked_of(opposite(begins(0, 8))), alone(0, 5), alone(0, 3), alone(1, 2), checks(),
            alone(0, 2), run([8], []), NEVER_BROKEN)
        self.assertEqual(answered[2:], [[-1], [-1], [-2], [1, 0], [1, 8, 0], [1, 0], [1]])


if __name__ == "__main__":
    unittest.main()
