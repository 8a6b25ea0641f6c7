"""each: all translations that break no check with a sentence, in order, and its refusals."""

import unittest

from tests.helper import (
    ALWAYS, LARGEST, NEVER, ask, asked_of, at_most, begins, both, check, checks, counted, each, either, ends, fine,
    gone, is_exactly, length, letters, number, occurrences, opposite, run, same, sentences)

BROKEN = check(ALWAYS, NEVER)


def told_all(translations):
    return [len(translations)] + [entry for words in translations for entry in counted(words)]


class Translations(unittest.TestCase):
    def test_written_out(self):
        self.assertEqual(ask(each(0, [])), [[1, 0]])
        self.assertEqual(ask(each(1, [])), [[3, 0, 1, 0, 1, 1]])
        self.assertEqual(ask(each(2, [5])), [[7, 0, 1, 0, 1, 1, 2, 0, 0, 2, 0, 1, 2, 1, 0, 2, 1, 1]])

    def test_all_that_there_are(self):
        for row, n in (([7], 4), ([0, 1], 4), ([3, 5, 99], 2), ([1, 2, 3, 4], 2), ([1, 3, 5, 7, 9], 2)):
            translations = sentences(row, n)
            self.assertEqual(ask(letters(row), each(n, [0]))[1], told_all(translations))
            self.assertEqual(ask(letters(row), check(begins(0, 1), NEVER), each(n, [0]))[2], told_all(translations))
        self.assertEqual(len(sentences([0, 1], 4)), 31)

    def test_none(self):
        for n in range(5):
            self.assertEqual(ask(BROKEN, each(n, []), each(n, [0, 1]))[1:], [[0], [0]])
        self.assertEqual(ask(asked_of(begins(1, 2)), each(4, [2]))[1], [0])

    def test_some_in_order(self):
        answered = ask(asked_of(ends(1, 1)), each(3, []))
        self.assertEqual(answered[1], told_all([words for words in sentences([0, 1], 3) if words[-1:] == [1]]))
        self.assertEqual(answered[1][:6], [7, 1, 1, 2, 0, 1])

    def test_each_one_by_itself(self):
        for words in sentences([2, 5], 2):
            answered = ask(letters([2, 5]), asked_of(is_exactly(1, words)), each(2, [5]), each(1, [5]))
            self.assertEqual(answered[2], told_all([words]))
            self.assertEqual(answered[3], told_all([words]) if len(words) < 2 else [0])

    def test_breaks_none_of_several(self):
        answered = ask(
            asked_of(same(length(0), length(1))), check(begins(0, 0), ends(1, 1)),
            asked_of(at_most(number(1), occurrences(1, 0))), each(3, [0, 1]), each(3, [1, 1]), each(3, [0]))
        self.assertEqual(answered[3:], [[1, 2, 0, 1], [3, 2, 0, 0, 2, 0, 1, 2, 1, 0], [0]])

    def test_checks_that_are_gone_do_not_count(self):
        answered = ask(BROKEN, asked_of(begins(1, 1)), each(1, []), gone(0), each(1, []), gone(1), each(1, []))
        self.assertEqual(answered[2:], [[0], [1], [1, 1, 1], [0], [3, 0, 1, 0, 1, 1]])

    def test_letters_told_last_hold(self):
        longest = asked_of(same(length(1), number(2)))
        answered = ask(longest, each(2, []), letters([4, 6]), each(2, []), letters([8]), each(2, []))
        self.assertEqual(answered[1], told_all([[0, 0], [0, 1], [1, 0], [1, 1]]))
        self.assertEqual(answered[3], told_all([[4, 4], [4, 6], [6, 4], [6, 6]]))
        self.assertEqual(answered[5], told_all([[8, 8]]))

    def test_first_is_that_of_fine_for_its_sentence(self):
        calls = (asked_of(begins(0, 1)), asked_of(either(ends(1, 1), begins(0, 0))))
        answered = ask(*calls, fine(3), each(3, [1]))
        self.assertEqual(answered[2], [1, 1, 1, 1])
        self.assertEqual(answered[3][1:3], [1, 1])


class Sentence(unittest.TestCase):
    def test_without_words(self):
        answered = ask(asked_of(both(same(length(0), number(0)), opposite(begins(0, 0)))), each(1, []), each(1, [0]))
        self.assertEqual(answered[1:], [[3, 0, 1, 0, 1, 1], [0]])

    def test_words_that_are_no_letters(self):
        answered = ask(check(begins(0, 99), begins(1, 1)), each(1, [99]), each(1, [98]), each(1, [98, 99]))
        self.assertEqual(answered[1:], [[1, 1, 1], [3, 0, 1, 0, 1, 1], [3, 0, 1, 0, 1, 1]])

    def test_more_words_than_n(self):
        for size in (1, 4, 5, 20):
            just_these = asked_of(same(occurrences(0, 1), number(size)))
            answered = ask(just_these, each(0, [1] * size), each(0, [1] * (size - 1)))
            self.assertEqual(answered[1:], [[1, 0], [0]])

    def test_sides(self):
        as_long = asked_of(at_most(length(0), length(1)))
        self.assertEqual(ask(as_long, each(1, [7]), each(1, [7, 7]))[1:], [[2, 1, 0, 1, 1], [0]])


class Refusals(unittest.TestCase):
    def test_n_at_4_and_5(self):
        for row in ([7], [3, 4]):
            all_of_4 = told_all(sentences(row, 4))
            for n, answer in ((4, all_of_4), (5, [-1]), (100, [-1]), (LARGEST, [-1])):
                self.assertEqual(ask(letters(row), each(n, [7]))[1], answer)

    def test_31_sentences_and_more(self):
        for size, largest in ((1, 4), (2, 4), (3, 2), (4, 2), (5, 2)):
            row = list(range(size))
            for n in range(7):
                answer = told_all(sentences(row, n)) if n <= largest else [-1]
                self.assertEqual(ask(letters(row), each(n, [7]))[1], answer, (size, n))

    def test_20_words_and_21(self):
        for words, answer in (([1] * 20, [1, 0]), ([1] * 21, [-1]), ([1] * 60, [-1])):
            self.assertEqual(ask(each(0, words)), [answer])

    def test_words_99_and_100(self):
        for word, answer in ((99, [1, 0]), (100, [-1]), (LARGEST, [-1])):
            for words in ([word], [0, word], [word, 0], [0, word, 0], [0] * 19 + [word]):
                self.assertEqual(ask(each(0, words)), [answer])

    def test_n_and_sentence_both(self):
        for n in (5, LARGEST):
            for words in ([100], [0] * 21, [LARGEST] * 60):
                self.assertEqual(ask(each(n, words), each(4, words), each(n, [])), [[-1]] * 3)
        self.assertEqual(ask(letters([1, 2, 3]), each(3, [100]), each(3, [0] * 21)), [[3], [-1], [-1]])

    def test_refused_where_none_keep_the_checks_either(self):
        self.assertEqual(ask(BROKEN, each(5, []), each(4, [100]), each(4, []))[1:], [[-1], [-1], [0]])

    def test_all_is_as_it_was(self):
        answered = ask(
            letters([6, 7, 8]), asked_of(begins(1, 8)), each(5, []), each(3, []), each(2, [100]), each(2, [0] * 21),
            checks(), each(1, []), run([], []), asked_of(ALWAYS))
        self.assertEqual(answered[2:], [[-1], [-1], [-1], [-1], [1, 0], [1, 1, 8], [1, 0], [1]])


if __name__ == "__main__":
    unittest.main()
