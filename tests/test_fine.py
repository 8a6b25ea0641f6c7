"""fine: the first pair that breaks no check, in the order of the pairs, and its refusals."""

import unittest

from tests.helper import (
    ALWAYS, LARGEST, NEVER, ask, asked_of, at_most, begins, both, check, either, ends, fine, followed, gone, is_pair,
    length, letters, number, occurrences, opposite, pairs, run, same, told)

BROKEN = check(ALWAYS, NEVER)


class FirstPair(unittest.TestCase):
    def test_no_checks(self):
        for n in range(5):
            self.assertEqual(ask(fine(n)), [[0, 0]])

    def test_n_0(self):
        self.assertEqual(ask(asked_of(same(length(0), length(1))), fine(0))[1], [0, 0])
        self.assertEqual(ask(asked_of(at_most(number(1), length(1))), fine(0))[1], [-6])

    def test_translation_is_varied_ahead_of_the_sentence(self):
        some_word = either(at_most(number(1), length(0)), at_most(number(1), length(1)))
        self.assertEqual(ask(asked_of(some_word), fine(2))[1], [0, 1, 0])
        three = either(at_most(number(3), length(0)), both(begins(0, 0), begins(1, 1)))
        self.assertEqual(ask(asked_of(three), fine(4))[1], [1, 0, 1, 1])

    def test_sentence_then_translation(self):
        self.assertEqual(ask(asked_of(begins(0, 1)), asked_of(ends(1, 1)), fine(3))[2], [1, 1, 1, 1])
        self.assertEqual(ask(asked_of(begins(0, 1)), fine(3))[1], [1, 1, 0])
        self.assertEqual(ask(asked_of(begins(1, 1)), fine(3))[1], [0, 1, 1])

    def test_shorter_is_ahead_of_lesser_words(self):
        either_one = either(same(occurrences(0, 0), number(4)), same(occurrences(0, 1), number(3)))
        self.assertEqual(ask(asked_of(either_one), fine(4))[1], [3, 1, 1, 1, 0])

    def test_lesser_word_where_they_first_differ(self):
        mixed = both(at_most(number(1), occurrences(1, 0)), at_most(number(1), occurrences(1, 1)))
        self.assertEqual(ask(asked_of(mixed), fine(2))[1], [0, 2, 0, 1])
        ends_low = both(same(length(0), number(3)), both(ends(0, 0), at_most(number(1), occurrences(0, 1))))
        self.assertEqual(ask(asked_of(ends_low), fine(3))[1], [3, 0, 1, 0, 0])

    def test_breaks_none_of_several(self):
        answered = ask(
            asked_of(followed(0, 0, 1)), asked_of(at_most(number(2), length(0))),
            check(begins(0, 0), same(length(1), number(2))), check(at_most(number(2), length(1)), ends(1, 1)), fine(4))
        self.assertEqual(answered[4], [2, 0, 1, 2, 0, 1])

    def test_each_pair_in_turn(self):
        """Each time the pair found is ruled out: they come one after another in the order of pairs."""
        in_order = pairs([2, 5], 2)
        for first, later in zip(in_order, in_order[1:]):
            one_of_two = either(is_pair(*later), is_pair(*first))
            for condition, pair in ((one_of_two, first), (both(one_of_two, opposite(is_pair(*first))), later)):
                answered = ask(letters([2, 5]), asked_of(condition), fine(2))
                self.assertEqual(answered[2], told(pair))

    def test_checks_that_are_gone_do_not_count(self):
        answered = ask(BROKEN, asked_of(begins(0, 1)), fine(1), gone(0), fine(1), gone(1), fine(1))
        self.assertEqual(answered[2:], [[-6], [1], [1, 1, 0], [0], [0, 0]])

    def test_last_pair_of_31_sentences(self):
        last = both(same(occurrences(0, 1), number(4)), same(occurrences(1, 1), number(4)))
        self.assertEqual(ask(asked_of(last), fine(4))[1], [4, 1, 1, 1, 1, 4, 1, 1, 1, 1])
        last = both(same(occurrences(0, 9), number(2)), same(occurrences(1, 9), number(2)))
        self.assertEqual(ask(letters([1, 3, 5, 7, 9]), asked_of(last), fine(2))[2], [2, 9, 9, 2, 9, 9])


class NoPair(unittest.TestCase):
    def test_none(self):
        for n in range(5):
            self.assertEqual(ask(BROKEN, fine(n))[1], [-6])

    def test_checks_that_cannot_be_kept_together(self):
        answered = ask(asked_of(begins(0, 1)), fine(4), asked_of(opposite(begins(0, 1))), fine(4), gone(0), fine(4))
        self.assertEqual(answered, [[0], [1, 1, 0], [1], [-6], [1], [0, 0]])

    def test_too_few_words(self):
        answered = ask(asked_of(at_most(number(4), length(1))), fine(3), fine(4))
        self.assertEqual(answered[1:], [[-6], [0, 4, 0, 0, 0, 0]])

    def test_word_that_is_no_letter(self):
        answered = ask(asked_of(begins(1, 2)), fine(4), letters([0, 2]), fine(4))
        self.assertEqual(answered[1:], [[-6], [2], [0, 1, 2]])

    def test_all_is_as_it_was(self):
        answered = ask(BROKEN, letters([3]), fine(4), run([], []), gone(0), asked_of(begins(0, 3)), fine(1))
        self.assertEqual(answered[2:], [[-6], [1, 0], [0], [1], [1, 3, 0]])


class Refusals(unittest.TestCase):
    def test_n_at_4_and_5(self):
        for row in ([7], [3, 4]):
            for n, answer in ((4, [0, 0]), (5, [-1]), (100, [-1]), (LARGEST, [-1])):
                self.assertEqual(ask(letters(row), fine(n))[1], answer)

    def test_31_sentences_and_more(self):
        for size, largest in ((1, 4), (2, 4), (3, 2), (4, 2), (5, 2)):
            for n in range(7):
                answer = [0, 0] if n <= largest else [-1]
                self.assertEqual(ask(letters(list(range(size))), fine(n))[1], answer, (size, n))

    def test_refused_where_there_is_no_pair_either(self):
        self.assertEqual(ask(BROKEN, fine(5), letters([1, 2, 3]), fine(3), fine(2))[1:], [[-1], [3], [-1], [-6]])

    def test_all_is_as_it_was(self):
        answered = ask(
            asked_of(begins(0, 8)), letters([6, 7, 8]), fine(5), fine(3), fine(2), run([], []), asked_of(ALWAYS))
        self.assertEqual(answered[2:], [[-1], [-1], [1, 8, 0], [1, 0], [1]])


if __name__ == "__main__":
    unittest.main()
