"""clash: the fewest checks that cannot be kept together, the first of such rows, and its refusals."""

import itertools
import random
import unittest

from tests.helper import (
    ALWAYS, LARGEST, NEVER, any_of, ask, asked_of, at_most, begins, both, broken_at, check, checks, clash, ends, fine,
    gone, is_exactly, length, letters, number, opposite, pairs, run, same, sentences)

BROKEN = check(ALWAYS, NEVER)
NEVER_BROKEN = check(ALWAYS, ALWAYS)

# The translations of one word at most with the letters 0 to 4: six kinds of pairs that checks can be broken by.
KINDS = sentences(range(5), 1)


def broken_by_kinds(*kinds):
    return check(any_of([is_exactly(1, KINDS[kind]) for kind in kinds]), NEVER)


def clash_of(*rows):
    """What clash answers where check number k is broken by the kinds of pairs in the row k."""
    return ask(letters(list(range(5))), *[broken_by_kinds(*row) for row in rows], clash(1))[-1]


def plain_clash(rows):
    """The same, by going through all choices of checks."""
    for size in range(1, len(rows) + 1):
        for choice in itertools.combinations(range(len(rows)), size):
            if set().union(*[rows[which] for which in choice]) == set(range(6)):
                return [size] + list(choice)
    return [-6]


class Fewest(unittest.TestCase):
    def test_one_that_each_pair_breaks(self):
        for n in range(5):
            self.assertEqual(ask(BROKEN, clash(n))[1], [1, 0])
        self.assertEqual(ask(NEVER_BROKEN, asked_of(begins(0, 1)), BROKEN, clash(4))[3], [1, 2])

    def test_one_alone_though_two_others_clash(self):
        one, two = asked_of(begins(0, 1)), asked_of(opposite(begins(0, 1)))
        self.assertEqual(ask(one, two, BROKEN, clash(4))[3], [1, 2])
        self.assertEqual(ask(one, BROKEN, two, clash(4))[3], [1, 1])

    def test_two_of_which_neither_clashes_alone(self):
        one, two = asked_of(begins(0, 1)), asked_of(opposite(begins(0, 1)))
        self.assertEqual(ask(one, two, clash(4))[2], [2, 0, 1])
        self.assertEqual(ask(one, NEVER_BROKEN, two, clash(4))[3], [2, 0, 2])
        self.assertEqual(ask(NEVER_BROKEN, NEVER_BROKEN, two, one, clash(4))[4], [2, 2, 3])

    def test_three_of_which_no_two_clash(self):
        answered = ask(
            asked_of(same(length(0), length(1))), asked_of(at_most(number(2), length(0))),
            asked_of(at_most(length(1), number(1))), clash(4), gone(0), clash(4))
        self.assertEqual(answered[3:], [[3, 0, 1, 2], [2], [-6]])

    def test_as_many_as_there_are(self):
        for size in range(1, 7):
            rows = [[kind for kind in range(6) if kind % size == part] for part in range(size)]
            self.assertEqual(clash_of(*rows), [size] + list(range(size)))

    def test_eight_of_which_no_seven_clash(self):
        """Each of the nine pairs of one word at most breaks just one check, the last two the same."""
        in_order = pairs([0, 1], 1)
        rows = [broken_at(pair) for pair in in_order[:7]] + [broken_at(*in_order[7:])]
        for which in range(8):
            answered = ask(*rows, clash(1), gone(which), clash(1))
            self.assertEqual(answered[8:], [[8] + list(range(8)), [7], [-6]])

    def test_row_of_many_small_clashes_is_not_taken_for_the_fewest(self):
        """Taking what most pairs break first would end at three."""
        self.assertEqual(clash_of([0, 1, 3, 4], [0, 1, 2], [3, 4, 5]), [2, 1, 2])

    def test_checks_that_say_nothing_are_left_out(self):
        self.assertEqual(clash_of([], [0, 1, 2], [], [3, 4, 5], []), [2, 1, 3])


class FirstOfAsMany(unittest.TestCase):
    def test_one(self):
        self.assertEqual(ask(BROKEN, BROKEN, clash(2))[2], [1, 0])
        self.assertEqual(ask(NEVER_BROKEN, BROKEN, NEVER_BROKEN, BROKEN, clash(2))[4], [1, 1])

    def test_lesser_number_where_they_first_differ(self):
        low, high = [0, 1, 2], [3, 4, 5]
        self.assertEqual(clash_of(low, high, high), [2, 0, 1])
        self.assertEqual(clash_of(low, low, high, high), [2, 0, 2])
        self.assertEqual(clash_of(low, low, high), [2, 0, 2])

    def test_first_number_counts_ahead_of_the_last(self):
        """0 and 3 clash, and so do 1 and 2: the row with the lesser first number is told."""
        self.assertEqual(clash_of([0], [0, 1], [2, 3, 4, 5], [1, 2, 3, 4, 5]), [2, 0, 3])

    def test_second_number_counts_where_the_first_is_the_same(self):
        self.assertEqual(clash_of([0, 1], [2, 3], [2], [3, 4, 5], [4, 5]), [3, 0, 1, 3])

    def test_number_of_checks_counts_ahead_of_their_numbers(self):
        self.assertEqual(clash_of([0, 1], [2, 3], [4, 5], [0, 1, 2], [3, 4, 5]), [2, 3, 4])

    def test_each_way_of_two_halves(self):
        """Four checks, each broken by one of two kinds of pairs or by both or by none."""
        for rows in itertools.product(([], [0, 1, 2], [3, 4, 5], [0, 1, 2, 3, 4, 5]), repeat=4):
            self.assertEqual(clash_of(*rows), plain_clash(rows), rows)

    def test_many_rows(self):
        source = random.Random(20261118)
        sizes = set()
        for _ in range(300):
            most = source.randrange(1, 5)
            rows = [source.sample(range(6), source.randrange(most + 1)) for _ in range(source.randrange(1, 9))]
            wanted = plain_clash(rows)
            sizes.add(wanted[0])
            self.assertEqual(clash_of(*rows), wanted, rows)
        self.assertLessEqual({-6, 2, 3, 4, 5}, sizes)


class NumbersWithGaps(unittest.TestCase):
    def test_checks_that_are_gone_do_not_count(self):
        answered = ask(
            BROKEN, BROKEN, NEVER_BROKEN, BROKEN, clash(1), gone(0), clash(1), gone(1), clash(1), gone(3), clash(1))
        self.assertEqual(answered[4:], [[1, 0], [3], [1, 1], [2], [1, 3], [1], [-6]])

    def test_numbers_are_those_of_the_checks(self):
        one, two = asked_of(begins(0, 1)), asked_of(opposite(begins(0, 1)))
        answered = ask(
            NEVER_BROKEN, one, NEVER_BROKEN, one, two, NEVER_BROKEN, two, gone(0), gone(1), gone(4), clash(3), two,
            gone(6), clash(3))
        self.assertEqual(answered[7:], [[6], [5], [4], [2, 3, 6], [7], [4], [2, 3, 7]])

    def test_numbers_above_8(self):
        calls = []
        for k in range(10):
            calls += [NEVER_BROKEN, gone(k)]
        answered = ask(*calls, asked_of(ends(1, 0)), asked_of(ends(1, 1)), clash(4))
        self.assertEqual(answered[20:], [[10], [11], [2, 10, 11]])


class LettersAndWords(unittest.TestCase):
    def test_letters_told_last_hold(self):
        answered = ask(
            asked_of(begins(0, 2)), asked_of(begins(0, 1)), clash(2), letters([1, 2]), clash(2), letters([2]), clash(2))
        self.assertEqual(answered[2:], [[1, 0], [2], [2, 0, 1], [1], [1, 1]])

    def test_number_of_words_counts(self):
        answered = ask(asked_of(at_most(number(2), length(0))), clash(0), clash(1), clash(2), clash(4))
        self.assertEqual(answered[1:], [[1, 0], [1, 0], [-6], [-6]])

    def test_one_pair_that_breaks_none_is_enough(self):
        for words in ([], [0], [1], [0, 1], [1, 1]):
            condition = both(is_exactly(0, words), is_exactly(1, [1, 1]))
            self.assertEqual(ask(asked_of(condition), NEVER_BROKEN, clash(2), clash(1))[2:], [[-6], [1, 0]])


class NoClash(unittest.TestCase):
    def test_no_checks(self):
        for n in range(5):
            self.assertEqual(ask(clash(n)), [[-6]])
        self.assertEqual(ask(BROKEN, gone(0), clash(4))[2], [-6])

    def test_all_can_be_kept(self):
        self.assertEqual(ask(*[NEVER_BROKEN] * 8, clash(4))[8], [-6])
        self.assertEqual(ask(asked_of(begins(0, 1)), asked_of(begins(1, 0)), clash(4))[2], [-6])

    def test_just_where_fine_finds_none(self):
        for told_check in (BROKEN, NEVER_BROKEN, broken_at(([], [])), asked_of(begins(0, 2))):
            answered = ask(told_check, fine(2), clash(2))
            self.assertNotEqual(answered[1] == [-6], answered[2] == [-6])

    def test_all_is_as_it_was(self):
        answered = ask(
            letters([3]), asked_of(begins(0, 3)), clash(4), checks(), run([], []), BROKEN, clash(4), fine(1), gone(1),
            fine(1))
        self.assertEqual(answered[2:], [[-6], [1, 0], [1, 0], [1], [1, 1], [-6], [1], [1, 3, 0]])


class Refusals(unittest.TestCase):
    def test_n_at_4_and_5(self):
        for row in ([7], [3, 4]):
            for n, answer in ((4, [1, 0]), (5, [-1]), (100, [-1]), (LARGEST, [-1])):
                self.assertEqual(ask(letters(row), BROKEN, clash(n))[2], answer)

    def test_31_sentences_and_more(self):
        for size, largest in ((1, 4), (2, 4), (3, 2), (4, 2), (5, 2)):
            for n in range(7):
                answer = [1, 0] if n <= largest else [-1]
                self.assertEqual(ask(letters(list(range(size))), BROKEN, clash(n))[2], answer, (size, n))

    def test_n_is_told_ahead_of_no_clash(self):
        self.assertEqual(ask(clash(5), letters([1, 2, 3]), clash(3), clash(2)), [[-1], [3], [-1], [-6]])

    def test_all_is_as_it_was(self):
        answered = ask(
            letters([6, 7, 8]), asked_of(begins(0, 5)), clash(5), clash(3), checks(), clash(2), run([5], []),
            NEVER_BROKEN)
        self.assertEqual(answered[2:], [[-1], [-1], [1, 0], [1, 0], [0], [1]])


if __name__ == "__main__":
    unittest.main()
