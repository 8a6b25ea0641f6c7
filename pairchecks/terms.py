"""Terms: how they are read, and which number each is for a pair.

A term is kept as a tuple: what it begins with, then what is told with it.
A pair is a tuple of two lists of words, so a side is its index.
"""

NUMBER = 0
LENGTH = 1
OCCURRENCES = 2
SUM = 3
MULTIPLE = 4


# Terms nest at most 12 deep, so here and below a call within a call is safe.
def read_term(reader):
    kind = reader.number()
    if kind == NUMBER or kind == LENGTH:
        return (kind, reader.number())
    if kind == OCCURRENCES:
        side = reader.number()
        return (kind, side, reader.number())
    if kind == SUM:
        first = read_term(reader)
        return (kind, first, read_term(reader))
    factor = reader.number()
    return (kind, factor, read_term(reader))


def term_value(term, pair):
    kind = term[0]
    if kind == NUMBER:
        return term[1]
    if kind == LENGTH:
        return len(pair[term[1]])
    if kind == OCCURRENCES:
        return pair[term[1]].count(term[2])
    if kind == SUM:
        return term_value(term[1], pair) + term_value(term[2], pair)
    return term[1] * term_value(term[2], pair)
