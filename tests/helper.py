"""Terms, conditions and calls as the lists that are handed in, and a list of calls asked at once."""

import itertools

from pairchecks.office import answers

LARGEST = 4294967295

ALWAYS = [0]
NEVER = [1]

# The numbers of fine, alone, apart, clash and each.
SEARCHES = range(5, 10)


def number(k):
    return [0, k]


def length(side):
    return [1, side]


def occurrences(side, word):
    return [2, side, word]


def plus(first, second):
    return [3] + first + second


def times(k, term):
    return [4, k] + term


def both(first, second):
    return [2] + first + second


def either(first, second):
    return [3] + first + second


def opposite(condition):
    return [4] + condition


def at_most(first, second):
    return [5] + first + second


def same(first, second):
    return [6] + first + second


def begins(side, word):
    return [7, side, word]


def ends(side, word):
    return [8, side, word]


def followed(side, first, second):
    return [9, side, first, second]


def counted(row):
    return [len(row)] + row


def check(when, must):
    assert len(when + must) <= 200, "not to be handed in"
    return [0] + counted(when + must)


def gone(which):
    return [1, which]


def letters(row):
    return [2] + counted(row)


def run(sentence, translation):
    return [3] + counted(sentence) + counted(translation)


def value(sentence, translation, term):
    return [4] + counted(sentence) + counted(translation) + counted(term)


def fine(n):
    return [5, n]


def alone(which, n):
    return [6, which, n]


def apart(which, other, n):
    return [7, which, other, n]


def clash(n):
    return [8, n]


def each(n, sentence):
    return [9, n] + counted(sentence)


def checks():
    return [10]


def asked_of(condition):
    """A check that asks this of every pair."""
    return check(ALWAYS, condition)


def is_exactly(side, words):
    """A condition that just this sentence of at most two words meets on this side."""
    condition = same(length(side), number(len(words)))
    if words:
        condition = both(condition, begins(side, words[0]))
    if len(words) > 1:
        condition = both(condition, ends(side, words[1]))
    return condition


def is_pair(sentence, translation):
    return both(is_exactly(0, sentence), is_exactly(1, translation))


def any_of(conditions):
    """One of these conditions at least, nested by halves, so that it is not deep."""
    if len(conditions) < 2:
        return conditions[0] if conditions else NEVER
    middle = len(conditions) // 2
    return either(any_of(conditions[:middle]), any_of(conditions[middle:]))


def broken_at(*pairs):
    """A check that just these pairs break (each of at most two words on a side)."""
    return check(any_of([is_pair(*pair) for pair in pairs]), NEVER)


def told(pair):
    """A pair as it is answered."""
    return counted(pair[0]) + counted(pair[1])


def sentences(row, n):
    """All sentences of these letters with n words at most, in order."""
    return [list(words) for size in range(n + 1) for words in itertools.product(row, repeat=size)]


def pairs(row, n):
    return list(itertools.product(sentences(row, n), repeat=2))


def ask(*calls):
    """Hand in these calls as one list and give back one list of numbers for each call."""
    assert 1 <= len(calls) <= 30 and sum(call[0] in SEARCHES for call in calls) <= 8, "not to be handed in"
    handed = [entry for call in calls for entry in call]
    rest = answers(handed)
    answered = []
    while rest:
        size = rest[0]
        answered.append(rest[1:1 + size])
        rest = rest[1 + size:]
    return answered


def holds(condition, sentence, translation):
    """Whether a condition is so, as told by a check that asks for it and nothing else."""
    answered = ask(check(ALWAYS, condition), run(sentence, translation))
    assert answered[0] == [0], answered
    assert answered[1] in ([0], [1, 0]), answered
    return answered[1] == [0]
