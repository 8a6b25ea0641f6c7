"""check and gone: numbers of checks, how many there are, and their refusals."""

import unittest

from tests.helper import (
    ALWAYS, LARGEST, NEVER, ask, at_most, begins, both, check, ends, fine, followed, gone, length, number,
    occurrences, opposite, plus, run, same, times)

BROKEN = check(ALWAYS, NEVER)


class NumbersOfChecks(unittest.TestCase):
    def test_numbers_begin_at_0_and_rise(self):
        self.assertEqual(ask(BROKEN, BROKEN, BROKEN), [[0], [1], [2]])

    def test_number_of_a_gone_check_is_not_given_again(self):
        self.assertEqual(ask(BROKEN, BROKEN, gone(1), BROKEN), [[0], [1], [1], [2]])
        self.assertEqual(ask(BROKEN, gone(0), BROKEN, gone(1), BROKEN), [[0], [0], [1], [0], [2]])

    def test_same_check_twice_has_two_numbers(self):
        self.assertEqual(ask(BROKEN, BROKEN, run([], [])), [[0], [1], [2, 0, 1]])

    def test_refused_check_uses_up_no_number(self):
        self.assertEqual(ask(check(begins(0, 100), ALWAYS), BROKEN, run([], [])), [[-1], [0], [1, 0]])


class EightChecks(unittest.TestCase):
    def test_eighth_is_taken_and_ninth_refused(self):
        answered = ask(*[BROKEN] * 9, run([3], []))
        self.assertEqual(answered, [[k] for k in range(8)] + [[-5], [8, 0, 1, 2, 3, 4, 5, 6, 7]])

    def test_one_gone_makes_room_for_one_with_a_new_number(self):
        answered = ask(*[BROKEN] * 8, BROKEN, gone(3), BROKEN, BROKEN, run([], []))
        self.assertEqual(answered[8:], [[-5], [7], [8], [-5], [8, 0, 1, 2, 4, 5, 6, 7, 8]])

    def test_number_above_99_is_told_ahead_of_no_room(self):
        answered = ask(*[BROKEN] * 8, check(ends(1, 100), ALWAYS), check(ends(1, 99), ALWAYS))
        self.assertEqual(answered[8:], [[-1], [-5]])


class BoundsOfNumbersAndWords(unittest.TestCase):
    def conditions_with(self, k):
        terms = [
            number(k), occurrences(0, k), occurrences(1, k), plus(number(k), number(0)), plus(number(0), number(k)),
            times(k, number(1)), times(1, number(k))]
        in_terms = [at_most(term, length(0)) for term in terms] + [at_most(length(0), term) for term in terms]
        in_terms += [same(term, length(0)) for term in terms] + [same(length(0), term) for term in terms]
        plain = [
            begins(0, k), begins(1, k), ends(0, k), ends(1, k), followed(0, k, 0), followed(0, 0, k),
            followed(1, k, 0), followed(1, 0, k)]
        nested = [opposite(begins(0, k)), both(begins(0, k), ALWAYS), both(ALWAYS, begins(0, k))]
        return in_terms + plain + nested

    def test_99_is_taken(self):
        for condition in self.conditions_with(99):
            self.assertEqual(ask(check(condition, ALWAYS)), [[0]], condition)
            self.assertEqual(ask(check(ALWAYS, condition)), [[0]], condition)

    def test_above_99_is_refused_and_nothing_is_kept(self):
        for k in (100, LARGEST):
            for condition in self.conditions_with(k):
                for refused in (check(condition, NEVER), check(ALWAYS, condition)):
                    answered = ask(refused, run([5], [5]), fine(0), BROKEN)
                    self.assertEqual(answered, [[-1], [0], [0, 0], [0]], refused)

    def test_refusal_leaves_the_other_checks(self):
        answered = ask(BROKEN, BROKEN, gone(0), check(NEVER, begins(0, 100)), run([], []), gone(1))
        self.assertEqual(answered[3:], [[-1], [1, 1], [0]])


class Gone(unittest.TestCase):
    def test_answers_how_many_are_left(self):
        answered = ask(BROKEN, BROKEN, BROKEN, gone(1), gone(0), gone(2))
        self.assertEqual(answered[3:], [[2], [1], [0]])

    def test_gone_check_is_broken_no_more(self):
        answered = ask(BROKEN, BROKEN, BROKEN, gone(1), run([], []), gone(0), run([], []))
        self.assertEqual(answered[3:], [[2], [2, 0, 2], [1], [1, 2]])

    def test_no_such_check(self):
        self.assertEqual(ask(gone(0)), [[-2]])
        for which in (2, 3, 99, LARGEST):
            answered = ask(BROKEN, BROKEN, gone(which), run([], []), BROKEN)
            self.assertEqual(answered[2:], [[-2], [2, 0, 1], [2]])

    def test_a_check_is_gone_once(self):
        answered = ask(BROKEN, BROKEN, gone(0), gone(0), run([], []), BROKEN)
        self.assertEqual(answered[2:], [[1], [-2], [1, 1], [2]])

    def test_number_that_was_refused_is_no_check(self):
        self.assertEqual(ask(check(begins(0, 100), NEVER), gone(0)), [[-1], [-2]])
        self.assertEqual(ask(*[BROKEN] * 9, gone(8), gone(7))[8:], [[-5], [-2], [7]])


if __name__ == "__main__":
    unittest.main()
