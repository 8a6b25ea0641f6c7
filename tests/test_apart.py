"""apart: the first pair that breaks just one of two checks, and its refusals."""

import unittest

from tests.helper import (
    ALWAYS, LARGEST, NEVER, apart, ask, asked_of, at_most, begins, broken_at, check, checks, ends, gone, length,
    letters, number, opposite, pairs, run, told)

BROKEN = check(ALWAYS, NEVER)
NEVER_BROKEN = check(ALWAYS, ALWAYS)


class FirstPair(unittest.TestCase):
    def test_one_broken_and_one_not(self):
        self.assertEqual(ask(BROKEN, NEVER_BROKEN, apart(0, 1, 4))[2], [0, 0])
        self.assertEqual(ask(NEVER_BROKEN, BROKEN, apart(0, 1, 4))[2], [0, 0])

    def test_either_one_may_be_broken(self):
        first, later = asked_of(opposite(begins(1, 1))), asked_of(opposite(begins(0, 0)))
        for two in ((first, later), (later, first)):
            self.assertEqual(ask(*two, apart(0, 1, 2), apart(1, 0, 2))[2:], [[0, 1, 1], [0, 1, 1]])

    def test_pairs_that_break_both_are_passed_over(self):
        short = asked_of(at_most(number(1), length(0)))
        shorter = asked_of(at_most(number(2), length(0)))
        for two in ((short, shorter), (shorter, short)):
            self.assertEqual(ask(*two, apart(0, 1, 2))[2], [1, 0, 0])

    def test_in_either_order(self):
        in_order = pairs([0, 1], 1)
        for first in in_order:
            for later in in_order:
                wanted = told(min(first, later, key=in_order.index)) if first != later else [-6]
                answered = ask(broken_at(first), broken_at(later), apart(0, 1, 1), apart(1, 0, 1))
                self.assertEqual(answered[2:], [wanted, wanted])

    def test_order_of_the_pairs(self):
        in_order = pairs([2, 5], 2)
        for first, later in zip(in_order, in_order[1:]):
            answered = ask(
                letters([2, 5]), broken_at(later, first), NEVER_BROKEN, broken_at(first), apart(0, 1, 2),
                apart(0, 2, 2))
            self.assertEqual(answered[4:], [told(first), told(later)])

    def test_third_check_has_no_say(self):
        two = (asked_of(opposite(begins(0, 1))), NEVER_BROKEN)
        for third in (BROKEN, NEVER_BROKEN, two[0], asked_of(ends(1, 1))):
            self.assertEqual(ask(*two, third, apart(0, 1, 2), apart(1, 0, 2))[3:], [[1, 1, 0], [1, 1, 0]])
            self.assertEqual(ask(third, *two, apart(1, 2, 2), apart(2, 1, 2))[3:], [[1, 1, 0], [1, 1, 0]])

    def test_numbers_behind_one_that_is_gone(self):
        answered = ask(
            BROKEN, broken_at(([], [1])), gone(0), broken_at(([1], [])), apart(1, 2, 1), apart(2, 1, 1), apart(0, 2, 1))
        self.assertEqual(answered[4:], [[0, 1, 1], [0, 1, 1], [-2]])

    def test_n_0(self):
        answered = ask(asked_of(at_most(number(1), length(0))), NEVER_BROKEN, BROKEN, apart(0, 1, 0), apart(0, 2, 0))
        self.assertEqual(answered[3:], [[0, 0], [-6]])

    def test_last_pair_of_31_sentences(self):
        words = [9, 9]
        answered = ask(letters([1, 3, 5, 7, 9]), broken_at((words, words)), NEVER_BROKEN, apart(1, 0, 2))
        self.assertEqual(answered[3], [2, 9, 9, 2, 9, 9])

    def test_letters_told_last_hold(self):
        two = (asked_of(at_most(length(0), number(0))), NEVER_BROKEN)
        self.assertEqual(ask(*two, apart(0, 1, 1), letters([6]), apart(0, 1, 1))[2:], [[1, 0, 0], [1], [1, 6, 0]])


class NoPair(unittest.TestCase):
    def test_same_number_twice(self):
        for told_check in (BROKEN, NEVER_BROKEN, asked_of(begins(0, 1))):
            self.assertEqual(ask(told_check, apart(0, 0, 4))[1], [-6])

    def test_same_check_under_two_numbers(self):
        answered = ask(asked_of(begins(0, 1)), BROKEN, asked_of(begins(0, 1)), apart(0, 2, 4), apart(2, 0, 4))
        self.assertEqual(answered[3:], [[-6], [-6]])

    def test_two_checks_that_say_the_same(self):
        answered = ask(
            check(begins(0, 1), ends(1, 1)), check(opposite(ends(1, 1)), opposite(begins(0, 1))), apart(0, 1, 4))
        self.assertEqual(answered[2], [-6])

    def test_both_broken_or_both_kept_everywhere(self):
        self.assertEqual(ask(BROKEN, BROKEN, apart(0, 1, 4))[2], [-6])
        self.assertEqual(ask(NEVER_BROKEN, NEVER_BROKEN, apart(0, 1, 4))[2], [-6])

    def test_too_few_words(self):
        longer = asked_of(at_most(length(1), number(3)))
        answered = ask(longer, NEVER_BROKEN, apart(0, 1, 3), apart(0, 1, 4))
        self.assertEqual(answered[2:], [[-6], [0, 4, 0, 0, 0, 0]])

    def test_all_is_as_it_was(self):
        answered = ask(
            BROKEN, BROKEN, letters([3]), apart(0, 1, 4), checks(), run([], []), gone(1), asked_of(begins(0, 3)),
            apart(0, 2, 1))
        self.assertEqual(answered[3:], [[-6], [2, 0, 1], [2, 0, 1], [1], [2], [1, 3, 0]])


class Refusals(unittest.TestCase):
    def test_no_such_check(self):
        self.assertEqual(ask(apart(0, 0, 0), apart(0, 1, 4)), [[-2], [-2]])
        for which in (1, 2, 99, LARGEST):
            answered = ask(BROKEN, apart(which, 0, 4), apart(0, which, 4), apart(which, which, 4))
            self.assertEqual(answered[1:], [[-2], [-2], [-2]])

    def test_check_that_is_gone(self):
        answered = ask(BROKEN, NEVER_BROKEN, gone(0), apart(0, 1, 4), apart(1, 0, 4), apart(0, 0, 4), apart(1, 1, 4))
        self.assertEqual(answered[3:], [[-2], [-2], [-2], [-6]])

    def test_n_at_4_and_5(self):
        for row in ([7], [3, 4]):
            for n, answer in ((4, [0, 0]), (5, [-1]), (100, [-1]), (LARGEST, [-1])):
                self.assertEqual(ask(letters(row), BROKEN, NEVER_BROKEN, apart(0, 1, n))[3], answer)

    def test_31_sentences_and_more(self):
        for size, largest in ((1, 4), (2, 4), (3, 2), (4, 2), (5, 2)):
            for n in range(7):
                answer = [0, 0] if n <= largest else [-1]
                answered = ask(letters(list(range(size))), BROKEN, NEVER_BROKEN, apart(1, 0, n))
                self.assertEqual(answered[3], answer, (size, n))

    def test_no_such_check_is_told_ahead_of_n(self):
        for n in (5, LARGEST):
            answered = ask(BROKEN, apart(0, 1, n), apart(1, 0, n), apart(1, 1, n), apart(0, 0, n))
            self.assertEqual(answered[1:], [[-2], [-2], [-2], [-1]])
        self.assertEqual(ask(letters([1, 2, 3]), BROKEN, apart(0, 1, 3))[2], [-2])

    def test_n_is_told_ahead_of_no_pair(self):
        self.assertEqual(ask(BROKEN, apart(0, 0, 5), apart(0, 0, 4))[1:], [[-1], [-6]])

    def test_all_is_as_it_was(self):
        answered = ask(
            letters([6, 7, 8]), asked_of(opposite(begins(0, 8))), NEVER_BROKEN, apart(0, 1, 5), apart(0, 1, 3),
            apart(0, 2, 2), checks(), apart(0, 1, 2), run([8], []), NEVER_BROKEN)
        self.assertEqual(answered[3:], [[-1], [-1], [-2], [2, 0, 1], [1, 8, 0], [1, 0], [2]])


if __name__ == "__main__":
    unittest.main()
