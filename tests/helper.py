"""Terms, conditions and calls as the lists that are handed in, and a list of calls asked at once."""

from pairchecks.office import answers

LARGEST = 4294967295

ALWAYS = [0]
NEVER = [1]


def number(k):
    return [0, k]


def length(side):
    return [1, side]


def occurrences(side, word):
    return [2, side, word]


def plus(first, second):
    return [3] + first + second


def times(k, term):
    return [4, k] + term


def both(first, second):
    return [2] + first + second


def either(first, second):
    return [3] + first + second


def opposite(condition):
    return [4] + condition


def at_most(first, second):
    return [5] + first + second


def same(first, second):
    return [6] + first + second


def begins(side, word):
    return [7, side, word]


def ends(side, word):
    return [8, side, word]


def followed(side, first, second):
    return [9, side, first, second]


def counted(row):
    return [len(row)] + row


def check(when, must):
    return [0] + counted(when + must)


def gone(which):
    return [1, which]


def letters(row):
    return [2] + counted(row)


def run(sentence, translation):
    return [3] + counted(sentence) + counted(translation)


def value(sentence, translation, term):
    return [4] + counted(sentence) + counted(translation) + counted(term)


def fine(n):
    return [5, n]


def ask(*calls):
    """Hand in these calls as one list and give back one list of numbers for each call."""
    handed = [entry for call in calls for entry in call]
    rest = answers(handed)
    answered = []
    while rest:
        size = rest[0]
        answered.append(rest[1:1 + size])
        rest = rest[1 + size:]
    return answered


def holds(condition, sentence, translation):
    """Whether a condition is so, as told by a check that asks for it and nothing else."""
    answered = ask(check(ALWAYS, condition), run(sentence, translation))
    assert answered[0] == [0], answered
    assert answered[1] in ([0], [1, 0]), answered
    return answered[1] == [0]
