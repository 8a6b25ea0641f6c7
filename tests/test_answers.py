"""answers: several calls in one list, how they are answered, and that nothing is changed or kept."""

import io
import pathlib
import subprocess
import sys
import unittest
from contextlib import redirect_stderr, redirect_stdout
from unittest import mock

from pairchecks.office import UnknownCall, answers
from tests.helper import (
    ALWAYS, NEVER, alone, apart, ask, asked_of, at_most, begins, check, checks, clash, each, ends, fine, gone, length,
    letters, number, run, times, value)


def nested_product():
    term = number(99)
    for _ in range(11):
        term = times(99, term)
    return term


# All eleven kinds of calls, with letters told anew between, and each way to refuse one (but for -5).
MIXED = (
    (letters([2, 5]), [2]),
    (check(begins(0, 2), ends(1, 5)), [0]),
    (check(ALWAYS, at_most(number(1), length(0))), [1]),
    (run([2], [2]), [1, 0]),
    (value([1, 2, 3], [], length(0)), [3]),
    (fine(2), [1, 2, 1, 5]),
    (alone(0, 2), [1, 2, 0]),
    (apart(0, 1, 1), [0, 0]),
    (each(1, [2, 7, 99]), [1, 1, 5]),
    (checks(), [2, 0, 1]),
    (gone(1), [1]),
    (gone(1), [-2]),
    (letters([3]), [1]),
    (check(ALWAYS, begins(0, 2)), [2]),
    (run([2], []), [1, 0]),
    (clash(4), [1, 2]),
    (letters([2, 3]), [2]),
    (clash(4), [2, 0, 2]),
    (fine(4), [-6]),
    (letters([]), [-1]),
    (each(0, [100]), [-1]),
    (value([], [], number(100)), [-1]),
    (value([], [], nested_product()), [99 ** 12]),
    (check(begins(0, 100), ALWAYS), [-1]),
    (run([100], []), [-1]),
    (checks(), [2, 0, 2]),
)
MIXED_ANSWERS = [entry for call, answer in MIXED for entry in [len(answer)] + answer]


def mixed_calls():
    return [entry for call, answer in MIXED for entry in call]


class OneList(unittest.TestCase):
    def test_call_by_call(self):
        self.assertEqual(answers(mixed_calls()), MIXED_ANSWERS)
        self.assertEqual(ask(*[call for call, answer in MIXED]), [answer for call, answer in MIXED])
        self.assertEqual({call[0] for call, answer in MIXED}, set(range(11)))

    def test_each_call_alone(self):
        self.assertEqual(answers(check(ALWAYS, NEVER)), [1, 0])
        self.assertEqual(answers(gone(0)), [1, -2])
        self.assertEqual(answers(letters([4])), [1, 1])
        self.assertEqual(answers(run([], [])), [1, 0])
        self.assertEqual(answers(value([6], [], length(0))), [1, 1])
        self.assertEqual(answers(fine(0)), [2, 0, 0])
        self.assertEqual(answers(alone(0, 0)), [1, -2])
        self.assertEqual(answers(apart(0, 0, 0)), [1, -2])
        self.assertEqual(answers(clash(0)), [1, -6])
        self.assertEqual(answers(each(0, [])), [2, 1, 0])
        self.assertEqual(answers(checks()), [1, 0])

    def test_how_each_call_is_handed_in(self):
        """Written out number by number, without the helper."""
        self.assertEqual(answers([0, 4, 7, 0, 3, 1, 3, 1, 3, 2, 8, 9]), [1, 0, 2, 1, 0])
        self.assertEqual(answers([2, 2, 3, 4, 5, 1, 1, 0]), [1, 2, 2, 0, 0, 1, -2])
        self.assertEqual(answers([4, 1, 9, 2, 9, 9, 3, 2, 1, 9, 3, 0, 0]), [1, 2, 1, 0])
        two_checks = [0, 4, 0, 7, 0, 1, 0, 4, 0, 8, 1, 0]
        self.assertEqual(answers(two_checks + [6, 0, 2, 10]), [1, 0, 1, 1, 3, 0, 1, 0, 3, 2, 0, 1])
        self.assertEqual(answers(two_checks + [7, 0, 1, 1, 8, 0]), [1, 0, 1, 1, 3, 0, 1, 0, 2, 1, 0])
        self.assertEqual(answers(two_checks + [9, 1, 2, 1, 8, 9, 2, 0]), [1, 0, 1, 1, 3, 1, 1, 0, 1, 0])

    def test_30_calls(self):
        self.assertEqual(ask(check(ALWAYS, NEVER), *[run([], [])] * 29), [[0]] + [[1, 0]] * 29)

    def test_longest_rows(self):
        calls = [value([0] * 60, [1] * 60, times(1, number(1)))] * 29 + [run([0] * 60, [1] * 60)]
        self.assertEqual(ask(*calls), [[-1]] * 30)

    def test_letters_told_anew_between_searches(self):
        beyond = asked_of(begins(1, 3))
        answered = ask(
            beyond, fine(1), alone(0, 1), clash(1), letters([3]), fine(1), alone(0, 1), clash(1), each(1, []),
            letters([4, 3]), each(1, []), checks())
        self.assertEqual(
            answered, [[0], [-6], [0, 0], [1, 0], [1], [0, 1, 3], [0, 0], [-6], [1, 1, 3], [-1], [1, 1, 3], [1, 0]])

    def test_largest_lists(self):
        """Eight checks of nearly 200 numbers, each looked at for all pairs by each of eight searches."""
        long_term = length(0)
        for _ in range(5):
            long_term = [3] + long_term + long_term
        long_check = check(at_most(number(0), long_term), at_most(number(0), long_term))
        self.assertGreater(len(long_check), 190)
        answered = ask(
            *[long_check] * 8, alone(0, 4), alone(7, 4), apart(0, 7, 4), apart(3, 4, 4), clash(4), clash(4),
            each(4, [1] * 20), fine(4))
        self.assertEqual(answered[8:14], [[-6]] * 6)
        self.assertEqual([len(answer) for answer in answered[14:]], [1 + 31 + 98, 2])

    def test_unknown_call(self):
        self.assertRaises(UnknownCall, answers, [11])


class NothingChangedOrKept(unittest.TestCase):
    def test_list_handed_in_is_the_same_afterwards(self):
        handed = mixed_calls()
        before = list(handed)
        answers(handed)
        self.assertEqual(handed, before)

    def test_list_handed_in_is_never_changed(self):
        class Fixed(list):
            def refuse(self, *given):
                raise AssertionError("the list that was handed in is changed")

            __setitem__ = __delitem__ = __iadd__ = __imul__ = refuse
            append = clear = extend = insert = pop = remove = reverse = sort = refuse

        self.assertEqual(answers(Fixed(mixed_calls())), MIXED_ANSWERS)

    def test_second_time_answers_the_same(self):
        handed = mixed_calls()
        self.assertEqual(answers(handed), MIXED_ANSWERS)
        self.assertEqual(answers(handed), MIXED_ANSWERS)

    def test_checks_and_letters_are_new_each_time(self):
        answers(check(ALWAYS, NEVER) + letters([7, 8, 9]))
        self.assertEqual(ask(run([], []), gone(0), check(ALWAYS, begins(0, 1)), fine(4)), [[0], [-2], [0], [1, 1, 0]])
        self.assertEqual(
            ask(checks(), clash(4), alone(0, 4), apart(0, 0, 4), each(1, [])),
            [[0], [-6], [-2], [-2], [3, 0, 1, 0, 1, 1]])

    def test_answer_is_a_new_list(self):
        handed = mixed_calls()
        answers(handed).clear()
        self.assertEqual(answers(handed), MIXED_ANSWERS)

    def test_answers_are_whole_numbers(self):
        answered = answers(mixed_calls())
        self.assertIs(type(answered), list)
        self.assertEqual({type(entry) for entry in answered}, {int})


class NothingOutside(unittest.TestCase):
    def test_prints_and_reads_nothing(self):
        printed = io.StringIO()
        with redirect_stdout(printed), redirect_stderr(printed):
            with mock.patch("builtins.open", side_effect=AssertionError("a file is read")):
                with mock.patch("sys.stdin", None):
                    answers(mixed_calls())
        self.assertEqual(printed.getvalue(), "")

    def test_imports_nothing_but_its_own_files(self):
        program = (
            "import sys\n"
            "before = set(sys.modules)\n"
            "import pairchecks.office\n"
            "pairchecks.office.answers([5, 4])\n"
            "print(sorted(name for name in set(sys.modules) - before if name.split('.')[0] != 'pairchecks'))\n")
        top = pathlib.Path(__file__).resolve().parent.parent
        done = subprocess.run([sys.executable, "-c", program], cwd=top, capture_output=True, text=True, check=True)
        self.assertEqual(done.stdout, "[]\n")


if __name__ == "__main__":
    unittest.main()
