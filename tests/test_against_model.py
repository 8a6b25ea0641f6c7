"""Many lists of calls, drawn from a fixed seed, against a second and plainer telling of the document."""

import itertools
import random
import unittest

from tests.helper import (
    SEARCHES, alone, apart, ask, check, checks, clash, counted, each, fine, gone, letters, run, value)

TERM_PARTS = {0: "n", 1: "s", 2: "sn", 3: "tt", 4: "nt"}
CONDITION_PARTS = {
    0: "", 1: "", 2: "cc", 3: "cc", 4: "c", 5: "tt", 6: "tt", 7: "sn", 8: "sn", 9: "snn"}


def draw(source, part, depth):
    """A nested list of one condition ("c"), term ("t"), side ("s") or number ("n")."""
    if part == "s":
        return source.randrange(2)
    if part == "n":
        return source.choice([0, 0, 1, 1, 2, 3])
    table = CONDITION_PARTS if part == "c" else TERM_PARTS
    kinds = [kind for kind in table if depth > 1 or not set(table[kind]) & set("ct")]
    if part == "c" and depth > 1:
        kinds = kinds[2:] + [5, 6, 9]
    kind = source.choice(kinds)
    return [kind] + [draw(source, inner, depth - 1) for inner in table[kind]]


def flat(nested):
    return [nested] if isinstance(nested, int) else [entry for part in nested for entry in flat(part)]


def term_of(nested, pair):
    kind, rest = nested[0], nested[1:]
    return [
        lambda: rest[0],
        lambda: len(pair[rest[0]]),
        lambda: sum(word == rest[1] for word in pair[rest[0]]),
        lambda: sum(term_of(part, pair) for part in rest),
        lambda: rest[0] * term_of(rest[1], pair),
    ][kind]()


def is_so(nested, pair):
    kind, rest = nested[0], nested[1:]
    return [
        lambda: True,
        lambda: False,
        lambda: all(is_so(part, pair) for part in rest),
        lambda: any(is_so(part, pair) for part in rest),
        lambda: not is_so(rest[0], pair),
        lambda: not term_of(rest[0], pair) > term_of(rest[1], pair),
        lambda: term_of(rest[0], pair) == term_of(rest[1], pair),
        lambda: pair[rest[0]][:1] == [rest[1]],
        lambda: pair[rest[0]][-1:] == [rest[1]],
        lambda: all(
            rest[2] in pair[rest[0]][place + 1:] for place, word in enumerate(pair[rest[0]]) if word == rest[1]),
    ][kind]()


class Model:
    def __init__(self):
        self.checks = []
        self.given = 0
        self.letters = [0, 1]

    def broken(self, pair):
        return [which for which, when, must in self.checks if is_so(when, pair) and not is_so(must, pair)]

    def check(self, when, must):
        if max(flat([when, must])) > 99:
            return [-1]
        if len(self.checks) >= 8:
            return [-5]
        self.checks.append((self.given, when, must))
        self.given += 1
        return [self.given - 1]

    def gone(self, which):
        left = [entry for entry in self.checks if entry[0] != which]
        if len(left) == len(self.checks):
            return [-2]
        self.checks = left
        return [len(left)]

    def choose(self, row):
        if not 1 <= len(row) <= 5 or max(row) > 99 or row != sorted(set(row)):
            return [-1]
        self.letters = row
        return [len(row)]

    def run(self, sentence, translation):
        if any(len(words) > 20 or max(words, default=0) > 99 for words in (sentence, translation)):
            return [-1]
        broken = self.broken((sentence, translation))
        return [len(broken)] + broken

    def value(self, sentence, translation, term):
        if self.run(sentence, translation) == [-1] or max(flat(term)) > 99:
            return [-1]
        return [term_of(term, (sentence, translation))]

    def rows(self, n):
        """All sentences in order, or nothing at all where they may not be asked for."""
        if n > 4 or sum(len(self.letters) ** size for size in range(n + 1)) > 31:
            return []
        rows = [list(row) for size in range(n + 1) for row in itertools.product(self.letters, repeat=size)]
        return sorted(rows, key=lambda row: (len(row), row))

    def first(self, n, is_it):
        for sentence, translation in itertools.product(self.rows(n), repeat=2):
            if is_it(self.broken((sentence, translation))):
                return counted(sentence) + counted(translation)
        return [-6] if self.rows(n) else [-1]

    def fine(self, n):
        return self.first(n, lambda broken: not broken)

    def alone(self, which, n):
        if which not in self.checks_told()[1:]:
            return [-2]
        return self.first(n, lambda broken: set(broken) == {which})

    def apart(self, which, other, n):
        if not {which, other} <= set(self.checks_told()[1:]):
            return [-2]
        return self.first(n, lambda broken: len({which, other} & set(broken)) == 1 and which != other)

    def clash(self, n):
        if not self.rows(n):
            return [-1]
        broken = {frozenset(self.broken(pair)) for pair in itertools.product(self.rows(n), repeat=2)}
        told = self.checks_told()[1:]
        subsets = [[which for place, which in enumerate(told) if mask >> place & 1] for mask in range(2 ** len(told))]
        clashing = [subset for subset in subsets if all(entry & set(subset) for entry in broken)]
        return counted(min(clashing, key=lambda subset: (len(subset), subset))) if clashing else [-6]

    def each(self, n, sentence):
        if not self.rows(n) or self.run(sentence, []) == [-1]:
            return [-1]
        keeping = [row for row in self.rows(n) if not self.broken((sentence, row))]
        return [len(keeping)] + flat([counted(row) for row in keeping])

    def checks_told(self):
        return [len(self.checks)] + [entry[0] for entry in self.checks]


def draw_sentence(source):
    size = source.choice([0, 1, 2, 3, 4, 5, 6, 20, 21]) if source.randrange(4) == 0 else source.randrange(5)
    words = [source.randrange(4) for _ in range(size)]
    if words and source.randrange(25) == 0:
        words[source.randrange(size)] = source.choice([99, 100])
    return words


def draw_letters(source):
    if source.randrange(3) == 0:
        return [source.randrange(6) for _ in range(source.randrange(7))]
    return sorted(source.sample(range(5), source.choice([1, 2, 2, 3, 4, 5])))


def spoil(source, nested):
    """Now and then one number or word at the end becomes 99 or 100."""
    if source.randrange(12) or len(nested) < 2:
        return nested
    last = nested[-1]
    if isinstance(last, list):
        return nested[:-1] + [spoil(source, last)]
    return nested if nested[0] == 1 else nested[:-1] + [source.choice([99, 100])]


def draw_search(source, model):
    n = source.choice([0, 1, 2, 2, 2, 3, 3, 4, 4, 5])
    which, other = source.randrange(model.given + 1), source.randrange(model.given + 1)
    kind = source.choice(["fine", "alone", "apart", "clash", "each"])
    if kind == "fine":
        return fine(n), model.fine(n)
    if kind == "alone":
        return alone(which, n), model.alone(which, n)
    if kind == "apart":
        return apart(which, other, n), model.apart(which, other, n)
    if kind == "clash":
        return clash(n), model.clash(n)
    sentence = draw_sentence(source)
    return each(n, sentence), model.each(n, sentence)


def draw_change(source, model, kind):
    if kind == "check":
        parts = [spoil(source, draw(source, "c", source.randrange(1, 5))) for _ in range(2)]
        return check(flat(parts[0]), flat(parts[1])), model.check(*parts)
    if kind == "gone":
        which = source.randrange(model.given + 1)
        return gone(which), model.gone(which)
    row = draw_letters(source)
    return letters(row), model.choose(row)


def draw_call(source, model):
    """A call as it is handed in, and what the model answers to it."""
    kind = source.choice(
        ["check", "check", "check", "check", "gone", "letters", "run", "run", "value", "checks", "search", "search"])
    if kind in ("check", "gone", "letters"):
        return draw_change(source, model, kind)
    if kind == "search":
        return draw_search(source, model)
    if kind == "checks":
        return checks(), model.checks_told()
    sentence, translation = draw_sentence(source), draw_sentence(source)
    if kind == "run":
        return run(sentence, translation), model.run(sentence, translation)
    term = spoil(source, draw(source, "t", source.randrange(1, 6)))
    return value(sentence, translation, flat(term)), model.value(sentence, translation, term)


def draw_list(source):
    """1 to 30 calls with what the model answers, at most 8 of them searches."""
    model = Model()
    drawn = []
    searches = 0
    for _ in range(source.randrange(1, 31)):
        call, answer = draw_call(source, model)
        searches += call[0] in SEARCHES
        if searches <= 8 or call[0] not in SEARCHES:
            drawn.append((call, answer))
    return drawn


def draw_strict_condition(source):
    """A condition that many pairs do not meet, so that several often cannot be kept together."""
    side, word = source.randrange(2), source.randrange(2)
    condition = source.choice([[7, side, word], [8, side, word], [6, [1, side], [0, word]], [9, side, word, 1 - word]])
    if source.randrange(3) == 0:
        condition = [4, condition]
    other = draw(source, "c", 2)
    return [source.choice([2, 3]), condition, other] if source.randrange(2) else condition


class AgainstModel(unittest.TestCase):
    def test_many_lists(self):
        source = random.Random(20261118)
        for _ in range(1500):
            drawn = draw_list(source)
            self.assertEqual(ask(*[call for call, answer in drawn]), [answer for call, answer in drawn])

    def test_many_checks_at_once(self):
        source = random.Random(20261119)
        for _ in range(300):
            model = Model()
            drawn = []
            for _ in range(source.randrange(2, 9)):
                must = draw_strict_condition(source)
                drawn.append((check([0], flat(must)), model.check([0], must)))
            if source.randrange(2):
                drawn.append(draw_change(source, model, "gone"))
            n = source.choice([0, 1, 2, 2, 3])
            drawn.append((clash(n), model.clash(n)))
            drawn += [draw_search(source, model) for _ in range(3)]
            self.assertEqual(ask(*[call for call, answer in drawn]), [answer for call, answer in drawn])


if __name__ == "__main__":
    unittest.main()
