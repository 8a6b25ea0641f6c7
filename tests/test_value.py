"""value: each kind of term on either side, values of any size, and its refusals."""

import unittest

from tests.helper import (
    ALWAYS, LARGEST, NEVER, ask, check, fine, length, letters, number, occurrences, plus, run, times, value)


def value_of(term, sentence, translation):
    answered = ask(value(sentence, translation, term))
    assert len(answered) == 1 and len(answered[0]) == 1, answered
    return answered[0][0]


class Terms(unittest.TestCase):
    def test_number(self):
        for k in (0, 1, 50, 99):
            self.assertEqual(value_of(number(k), [1, 2], []), k)

    def test_length(self):
        self.assertEqual(value_of(length(0), [], [1]), 0)
        self.assertEqual(value_of(length(1), [], [1]), 1)
        self.assertEqual(value_of(length(0), [3, 3, 4], [1]), 3)
        self.assertEqual(value_of(length(1), [3], [0] * 20), 20)

    def test_occurrences(self):
        self.assertEqual(value_of(occurrences(0, 3), [3, 4, 3], [3]), 2)
        self.assertEqual(value_of(occurrences(1, 3), [3, 4, 3], [3]), 1)
        self.assertEqual(value_of(occurrences(0, 5), [3, 4, 3], [5]), 0)
        self.assertEqual(value_of(occurrences(1, 0), [0], []), 0)
        self.assertEqual(value_of(occurrences(1, 99), [], [99] * 20), 20)

    def test_sum(self):
        self.assertEqual(value_of(plus(number(99), number(99)), [], []), 198)
        self.assertEqual(value_of(plus(length(0), occurrences(1, 2)), [7, 7, 7], [2, 2]), 5)
        self.assertEqual(value_of(plus(plus(number(1), number(2)), plus(number(4), number(8))), [], []), 15)

    def test_multiple(self):
        self.assertEqual(value_of(times(0, length(0)), [1, 2], []), 0)
        self.assertEqual(value_of(times(99, number(99)), [], []), 9801)
        self.assertEqual(value_of(times(3, length(1)), [1], [1, 2, 3]), 9)
        self.assertEqual(value_of(times(2, plus(number(3), times(5, number(7)))), [], []), 76)
        self.assertEqual(value_of(plus(times(2, number(3)), number(4)), [], []), 10)

    def test_nested_12_deep_and_larger_than_4294967295(self):
        product = number(99)
        on_left = length(0)
        on_right = length(1)
        for _ in range(11):
            product = times(99, product)
            on_left = plus(on_left, number(2))
            on_right = plus(number(3), on_right)
        self.assertEqual(value_of(product, [], []), 99 ** 12)
        self.assertGreater(99 ** 12, LARGEST)
        self.assertEqual(value_of(on_left, [1], []), 23)
        self.assertEqual(value_of(on_right, [1], []), 33)

    def test_checks_and_letters_do_not_matter(self):
        answered = ask(check(ALWAYS, NEVER), letters([5]), value([1], [2, 3], length(1)))
        self.assertEqual(answered[2], [2])


class Refusals(unittest.TestCase):
    def test_20_words_and_21(self):
        for words, answer in (([1] * 20, [7]), ([1] * 21, [-1]), ([1] * 60, [-1])):
            self.assertEqual(ask(value(words, [], number(7))), [answer])
            self.assertEqual(ask(value([], words, number(7))), [answer])

    def test_words_99_and_100(self):
        for word, answer in ((99, [7]), (100, [-1]), (LARGEST, [-1])):
            for words in ([word], [0, word], [word, 0]):
                self.assertEqual(ask(value(words, [], number(7))), [answer])
                self.assertEqual(ask(value([], words, number(7))), [answer])

    def test_numbers_and_words_of_the_term(self):
        for k, refused in ((99, False), (100, True), (LARGEST, True)):
            for term in (
                    number(k), occurrences(0, k), occurrences(1, k), times(k, number(0)), times(0, number(k)),
                    plus(number(k), number(0)), plus(number(0), number(k)),
                    plus(times(2, occurrences(0, k)), length(1))):
                self.assertEqual(ask(value([], [], term)) == [[-1]], refused, term)

    def test_all_is_as_it_was(self):
        answered = ask(
            check(ALWAYS, NEVER), letters([4]), value([], [], number(100)), value([100], [], number(1)),
            value([], [1] * 21, number(1)), run([], []), value([4], [], length(0)), check(ALWAYS, ALWAYS))
        self.assertEqual(answered[2:], [[-1], [-1], [-1], [1, 0], [1], [1]])
        self.assertEqual(ask(value([], [], number(100)), fine(0)), [[-1], [0, 0]])


if __name__ == "__main__":
    unittest.main()
