"""run: which checks a pair breaks, each kind of condition on either side, and its refusals."""

import unittest

from tests.helper import (
    ALWAYS, LARGEST, NEVER, ask, at_most, begins, both, check, either, ends, followed, gone, holds, length, number,
    occurrences, opposite, plus, run, same, times)

BROKEN = check(ALWAYS, NEVER)


def on_side(side, words, other):
    return (words, other) if side == 0 else (other, words)


class WhenAndMust(unittest.TestCase):
    def test_broken_if_when_is_so_and_must_is_not(self):
        answered = ask(
            check(NEVER, NEVER), check(NEVER, ALWAYS), check(ALWAYS, NEVER), check(ALWAYS, ALWAYS), run([1], [2]))
        self.assertEqual(answered[4], [1, 2])

    def test_when_and_must_look_at_the_pair(self):
        question = check(begins(0, 7), ends(1, 9))
        for sentence, translation, broken in (
                ([7, 1], [2, 9], [0]), ([7, 1], [9, 2], [1, 0]), ([1, 7], [9, 2], [0]), ([7], [], [1, 0]),
                ([], [], [0])):
            self.assertEqual(ask(question, run(sentence, translation))[1], broken)

    def test_no_checks(self):
        self.assertEqual(ask(run([1, 2], [3])), [[0]])

    def test_checks_rise(self):
        answered = ask(
            BROKEN, check(ALWAYS, ALWAYS), BROKEN, BROKEN, gone(2), BROKEN, check(NEVER, NEVER), gone(0), BROKEN,
            run([], []))
        self.assertEqual(answered[-1], [3, 3, 4, 6])

    def test_examples_of_an_office(self):
        as_often = check(ALWAYS, same(occurrences(0, 5), occurrences(1, 5)))
        third_longer = check(ALWAYS, at_most(times(3, length(1)), times(4, length(0))))
        answered = ask(
            as_often, third_longer, run([5, 1, 5], [5, 5, 2, 3]), run([5, 1, 5], [5, 2, 2, 3, 3]), run([5], [5, 5]),
            run([1], [2, 3]), run([5], [1]))
        self.assertEqual(answered[2:], [[0], [2, 0, 1], [2, 0, 1], [1, 1], [1, 0]])


class Conditions(unittest.TestCase):
    def test_always_and_never(self):
        for pair in (([], []), ([1], []), ([], [1]), ([1, 2], [3])):
            self.assertTrue(holds(ALWAYS, *pair))
            self.assertFalse(holds(NEVER, *pair))

    def test_both_either_opposite(self):
        for first in (False, True):
            self.assertEqual(holds(opposite(ALWAYS if first else NEVER), [], []), not first)
            for second in (False, True):
                parts = [ALWAYS if first else NEVER, ALWAYS if second else NEVER]
                self.assertEqual(holds(both(*parts), [], []), first and second)
                self.assertEqual(holds(either(*parts), [], []), first or second)

    def test_at_most_and_same(self):
        for first in range(4):
            for second in range(4):
                pair = ([8] * first, [8] * second)
                self.assertEqual(holds(at_most(length(0), length(1)), *pair), first <= second)
                self.assertEqual(holds(at_most(length(1), length(0)), *pair), second <= first)
                self.assertEqual(holds(same(length(0), length(1)), *pair), first == second)
                self.assertEqual(holds(same(occurrences(1, 8), occurrences(0, 8)), *pair), first == second)

    def test_terms_of_every_kind_within(self):
        pair = ([4, 4, 5], [4, 6])
        for term, worth in (
                (number(2), 2), (length(0), 3), (length(1), 2), (occurrences(0, 4), 2), (occurrences(1, 4), 1),
                (plus(length(0), occurrences(1, 6)), 4), (times(5, length(1)), 10)):
            self.assertTrue(holds(same(term, number(worth)), *pair))
            self.assertTrue(holds(same(number(worth), term), *pair))
            self.assertTrue(holds(at_most(term, number(worth)), *pair))
            self.assertFalse(holds(at_most(term, number(worth - 1)), *pair))
            self.assertFalse(holds(same(term, number(worth + 1)), *pair))

    def test_begins(self):
        for side in (0, 1):
            for words, so in (([3], True), ([3, 4], True), ([4, 3], False), ([4], False), ([], False)):
                self.assertEqual(holds(begins(side, 3), *on_side(side, words, [])), so)
                self.assertEqual(holds(begins(side, 3), *on_side(side, words, [3])), so)

    def test_ends(self):
        for side in (0, 1):
            for words, so in (([3], True), ([4, 3], True), ([3, 4], False), ([4], False), ([], False)):
                self.assertEqual(holds(ends(side, 3), *on_side(side, words, [])), so)
                self.assertEqual(holds(ends(side, 3), *on_side(side, words, [3])), so)

    def test_word_0_neither_begins_nor_ends_one_without_words(self):
        for side in (0, 1):
            self.assertFalse(holds(begins(side, 0), [], []))
            self.assertFalse(holds(ends(side, 0), [], []))

    def test_followed_by_another(self):
        for side in (0, 1):
            for words, so in (
                    ([], True), ([9], True), ([2], True), ([1], False), ([1, 2], True), ([2, 1], False),
                    ([1, 9, 2], True), ([1, 1, 2], True), ([1, 2, 1], False), ([1, 2, 1, 9, 2, 9], True),
                    ([2, 1, 2], True)):
                self.assertEqual(holds(followed(side, 1, 2), *on_side(side, words, [])), so)
                self.assertEqual(holds(followed(side, 1, 2), *on_side(side, words, [1, 2, 1])), so)

    def test_no_other_word_stands_for_the_second(self):
        for side in (0, 1):
            for other in (0, 4, 6, 8, 99):
                self.assertFalse(holds(followed(side, 5, 7), *on_side(side, [7, 5, other], [7])))
                self.assertTrue(holds(followed(side, 5, 7), *on_side(side, [5, 7, other], [5])))

    def test_followed_by_the_same(self):
        for side in (0, 1):
            for words, so in (([], True), ([2, 3], True), ([1], False), ([1, 1], False), ([1, 2, 1, 2], False)):
                self.assertEqual(holds(followed(side, 1, 1), *on_side(side, words, [])), so)

    def test_word_99(self):
        for side in (0, 1):
            pair = on_side(side, [99, 0, 99], [0])
            self.assertTrue(holds(begins(side, 99), *pair))
            self.assertTrue(holds(ends(side, 99), *pair))
            self.assertTrue(holds(followed(side, 0, 99), *pair))
            self.assertFalse(holds(followed(side, 99, 0), *pair))

    def test_parts_stand_at_their_places(self):
        condition = either(both(begins(0, 1), ends(1, 2)), opposite(followed(0, 3, 4)))
        self.assertTrue(holds(condition, [1], [2]))
        self.assertFalse(holds(condition, [1], [3]))
        self.assertFalse(holds(condition, [2], [2]))
        self.assertTrue(holds(condition, [3], []))
        self.assertFalse(holds(condition, [3, 4], []))


class NestedTwelveDeep(unittest.TestCase):
    def test_conditions(self):
        deep = ALWAYS
        for depth in range(2, 13):
            deep = opposite(deep)
            self.assertEqual(holds(deep, [], []), depth % 2 == 1)

    def test_conditions_on_the_left_and_on_the_right(self):
        left = begins(1, 6)
        right = begins(1, 6)
        for _ in range(11):
            left = both(left, ALWAYS)
            right = either(NEVER, right)
        for deep in (left, right):
            self.assertTrue(holds(deep, [], [6]))
            self.assertFalse(holds(deep, [6], []))

    def test_terms_within_a_condition(self):
        deep = length(0)
        for _ in range(10):
            deep = times(2, deep)
        self.assertTrue(holds(same(deep, times(16, number(64))), [7], []))
        self.assertFalse(holds(same(deep, times(16, number(63))), [7], []))
        self.assertFalse(holds(same(deep, times(16, number(64))), [7, 7], []))

    def test_terms_within_conditions(self):
        deep = occurrences(1, 3)
        for _ in range(5):
            deep = plus(deep, number(1))
        deep = same(deep, number(7))
        for _ in range(5):
            deep = opposite(deep)
        self.assertFalse(holds(deep, [3], [3, 3]))
        self.assertTrue(holds(deep, [3, 3], [3]))

    def test_check_of_many_numbers(self):
        when = balanced(6)
        must = balanced(5)
        self.assertEqual(len(when + must), 190)
        self.assertEqual(ask(check(when, must), run([], []))[1], [0])
        self.assertEqual(ask(check(when, opposite(must)), run([], []))[1], [1, 0])


def balanced(depth):
    return ALWAYS if depth == 0 else both(balanced(depth - 1), balanced(depth - 1))


class Refusals(unittest.TestCase):
    def test_20_words_and_21(self):
        for words, answer in (([1] * 20, [1, 0]), ([1] * 21, [-1]), ([1] * 60, [-1])):
            self.assertEqual(ask(BROKEN, run(words, []))[1], answer)
            self.assertEqual(ask(BROKEN, run([], words))[1], answer)
            self.assertEqual(ask(BROKEN, run(words, words))[1], answer)

    def test_words_99_and_100(self):
        for word, answer in ((99, [1, 0]), (100, [-1]), (LARGEST, [-1])):
            for words in ([word], [0, word], [word, 0], [0, word, 0], [0] * 19 + [word]):
                self.assertEqual(ask(BROKEN, run(words, []))[1], answer)
                self.assertEqual(ask(BROKEN, run([], words))[1], answer)

    def test_refused_with_no_checks_too(self):
        self.assertEqual(ask(run([100], []), run([], [0] * 21), run([], [])), [[-1], [-1], [0]])

    def test_all_is_as_it_was(self):
        answered = ask(BROKEN, run([100], []), run([], [0] * 21), run([], []), BROKEN, gone(0))
        self.assertEqual(answered, [[0], [-1], [-1], [1, 0], [1], [1]])


if __name__ == "__main__":
    unittest.main()
