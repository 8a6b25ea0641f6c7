"""The calls on one set of checks, and their answers."""

from pairchecks.conditions import breaks, read_check
from pairchecks.reading import Reader
from pairchecks.sentences import are_letters, are_small, can_be_searched, is_sentence, sentences_in_order
from pairchecks.terms import read_term, term_value

CHECK = 0
GONE = 1
LETTERS = 2
RUN = 3
VALUE = 4
FINE = 5

BEYOND_BOUNDS = -1
NO_SUCH_CHECK = -2
NO_ROOM = -5
NO_PAIR = -6

MOST_CHECKS = 8


class UnknownCall(ValueError):
    pass


class Office:
    def __init__(self):
        # Numbers are given rising, so the checks stay in the order of theirs.
        self.kept = {}
        self.given = 0
        self.alphabet = [0, 1]

    def check(self, conditions):
        # Beginnings and sides are small: what is not is a number or a word.
        if not are_small(conditions):
            return [BEYOND_BOUNDS]
        if len(self.kept) == MOST_CHECKS:
            return [NO_ROOM]
        number = self.given
        self.kept[number] = read_check(Reader(conditions))
        self.given = number + 1
        return [number]

    def gone(self, number):
        if number not in self.kept:
            return [NO_SUCH_CHECK]
        self.kept.pop(number)
        return [len(self.kept)]

    def letters(self, alphabet):
        if not are_letters(alphabet):
            return [BEYOND_BOUNDS]
        self.alphabet = list(alphabet)
        return [len(alphabet)]

    def run(self, sentence, translation):
        if not (is_sentence(sentence) and is_sentence(translation)):
            return [BEYOND_BOUNDS]
        broken = self.broken_by((sentence, translation))
        return [len(broken)] + broken

    def value(self, sentence, translation, term):
        if not (is_sentence(sentence) and is_sentence(translation) and are_small(term)):
            return [BEYOND_BOUNDS]
        return [term_value(read_term(Reader(term)), (sentence, translation))]

    def fine(self, most_words):
        if not can_be_searched(self.alphabet, most_words):
            return [BEYOND_BOUNDS]
        sentences = sentences_in_order(self.alphabet, most_words)
        for sentence in sentences:
            for translation in sentences:
                if self.is_kept_by((sentence, translation)):
                    return told(sentence) + told(translation)
        return [NO_PAIR]

    def broken_by(self, pair):
        return [number for number, check in self.kept.items() if breaks(pair, check)]

    # Stops at the first check that is broken: a search asks this of many pairs.
    def is_kept_by(self, pair):
        for check in self.kept.values():
            if breaks(pair, check):
                return False
        return True


def told(sentence):
    return [len(sentence)] + sentence


def answers(calls):
    office = Office()
    reader = Reader(calls)
    answered = []
    while not reader.at_end():
        answer = answer_call(office, reader)
        answered.append(len(answer))
        answered.extend(answer)
    return answered


def answer_call(office, reader):
    call = reader.number()
    if call == CHECK:
        return office.check(reader.row())
    if call == GONE:
        return office.gone(reader.number())
    if call == LETTERS:
        return office.letters(reader.row())
    if call == RUN or call == VALUE:
        return answer_about_pair(call, office, reader)
    if call == FINE:
        return office.fine(reader.number())
    raise UnknownCall(f"no call {call}")


def answer_about_pair(call, office, reader):
    sentence = reader.row()
    translation = reader.row()
    if call == RUN:
        return office.run(sentence, translation)
    return office.value(sentence, translation, reader.row())
