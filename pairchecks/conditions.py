"""Conditions and checks: how they are read, and what they say of a pair.

A condition is kept as a tuple, as a term is; a check is a tuple of two, when and must.
"""

from pairchecks.terms import read_term, term_value

ALWAYS = 0
NEVER = 1
BOTH = 2
EITHER = 3
OPPOSITE = 4
AT_MOST = 5
SAME = 6
BEGINS = 7
ENDS = 8
FOLLOWED = 9


def read_check(reader):
    when = read_condition(reader)
    return (when, read_condition(reader))


# Conditions nest at most 12 deep, so here and below a call within a call is safe.
def read_condition(reader):
    kind = reader.number()
    if kind == ALWAYS or kind == NEVER:
        return (kind,)
    if kind == BOTH or kind == EITHER:
        first = read_condition(reader)
        return (kind, first, read_condition(reader))
    if kind == OPPOSITE:
        return (kind, read_condition(reader))
    if kind == AT_MOST or kind == SAME:
        first = read_term(reader)
        return (kind, first, read_term(reader))
    side = reader.number()
    word = reader.number()
    if kind == FOLLOWED:
        return (kind, side, word, reader.number())
    return (kind, side, word)


def breaks(pair, check):
    return holds(check[0], pair) and not holds(check[1], pair)


def holds(condition, pair):
    kind = condition[0]
    if kind == ALWAYS:
        return True
    if kind == NEVER:
        return False
    if kind == BOTH:
        return holds(condition[1], pair) and holds(condition[2], pair)
    if kind == EITHER:
        return holds(condition[1], pair) or holds(condition[2], pair)
    if kind == OPPOSITE:
        return not holds(condition[1], pair)
    if kind == AT_MOST:
        return term_value(condition[1], pair) <= term_value(condition[2], pair)
    if kind == SAME:
        return term_value(condition[1], pair) == term_value(condition[2], pair)
    return holds_of_words(condition, pair[condition[1]])


def holds_of_words(condition, words):
    kind = condition[0]
    if kind == BEGINS:
        return len(words) > 0 and words[0] == condition[2]
    if kind == ENDS:
        return len(words) > 0 and words[-1] == condition[2]
    return each_is_followed(words, condition[2], condition[3])


def each_is_followed(words, first, second):
    waits = False
    for word in words:
        if word == second:
            waits = False
        # Asked last: where both words are the same, none stands behind itself.
        if word == first:
            waits = True
    return not waits
