"""The calls on one set of checks, and their answers."""

from pairchecks.choices import fewest_in_each
from pairchecks.conditions import breaks, read_check
from pairchecks.reading import Reader
from pairchecks.sentences import are_letters, are_small, can_be_searched, is_sentence
from pairchecks.sentences import pairs_in_order, sentences_in_order
from pairchecks.terms import read_term, term_value

CHECK = 0
GONE = 1
LETTERS = 2
RUN = 3
VALUE = 4
FINE = 5
ALONE = 6
APART = 7
CLASH = 8
EACH = 9
CHECKS = 10

BEYOND_BOUNDS = -1
NO_SUCH_CHECK = -2
NO_ROOM = -5
NOTHING_FOUND = -6

MOST_CHECKS = 8


class UnknownCall(ValueError):
    pass


class Office:
    def __init__(self):
        # Numbers are given rising, so the checks stay in the order of theirs.
        self.kept = {}
        self.given = 0
        self.alphabet = [0, 1]

    def check(self, conditions):
        # Beginnings and sides are small: what is not is a number or a word.
        if not are_small(conditions):
            return [BEYOND_BOUNDS]
        if len(self.kept) == MOST_CHECKS:
            return [NO_ROOM]
        number = self.given
        self.kept[number] = read_check(Reader(conditions))
        self.given = number + 1
        return [number]

    def gone(self, number):
        if number not in self.kept:
            return [NO_SUCH_CHECK]
        self.kept.pop(number)
        return [len(self.kept)]

    def letters(self, alphabet):
        if not are_letters(alphabet):
            return [BEYOND_BOUNDS]
        self.alphabet = list(alphabet)
        return [len(alphabet)]

    def run(self, sentence, translation):
        if not (is_sentence(sentence) and is_sentence(translation)):
            return [BEYOND_BOUNDS]
        return counted(self.broken_by((sentence, translation)))

    def value(self, sentence, translation, term):
        if not (is_sentence(sentence) and is_sentence(translation) and are_small(term)):
            return [BEYOND_BOUNDS]
        return [term_value(read_term(Reader(term)), (sentence, translation))]

    def fine(self, most_words):
        return self.first_pair(most_words, lambda pair: self.is_kept_by(pair))

    def alone(self, number, most_words):
        if number not in self.kept:
            return [NO_SUCH_CHECK]
        return self.first_pair(most_words, lambda pair: self.broken_by(pair) == [number])

    def apart(self, number, other, most_words):
        if number not in self.kept or other not in self.kept:
            return [NO_SUCH_CHECK]
        one = self.kept[number]
        two = self.kept[other]
        return self.first_pair(most_words, lambda pair: breaks(pair, one) != breaks(pair, two))

    def clash(self, most_words):
        if not can_be_searched(self.alphabet, most_words):
            return [BEYOND_BOUNDS]
        # Many pairs break the same checks: a dict keeps each such row once.
        broken = {}
        for pair in pairs_in_order(self.alphabet, most_words):
            broken[tuple(self.broken_by(pair))] = True
        fewest = fewest_in_each(list(broken), list(self.kept))
        if fewest is None:
            return [NOTHING_FOUND]
        return counted(fewest)

    def each(self, most_words, sentence):
        if not (can_be_searched(self.alphabet, most_words) and is_sentence(sentence)):
            return [BEYOND_BOUNDS]
        translations = sentences_in_order(self.alphabet, most_words)
        keeping = [translation for translation in translations if self.is_kept_by((sentence, translation))]
        answer = [len(keeping)]
        for translation in keeping:
            answer.extend(counted(translation))
        return answer

    def checks(self):
        return counted(list(self.kept))

    def first_pair(self, most_words, is_sought):
        if not can_be_searched(self.alphabet, most_words):
            return [BEYOND_BOUNDS]
        for pair in pairs_in_order(self.alphabet, most_words):
            if is_sought(pair):
                return counted(pair[0]) + counted(pair[1])
        return [NOTHING_FOUND]

    def broken_by(self, pair):
        return [number for number, check in self.kept.items() if breaks(pair, check)]

    # Stops at the first check that is broken: a search asks this of many pairs.
    def is_kept_by(self, pair):
        for check in self.kept.values():
            if breaks(pair, check):
                return False
        return True


def counted(row):
    return [len(row)] + row


def answers(calls):
    office = Office()
    reader = Reader(calls)
    answered = []
    while not reader.at_end():
        answered.extend(counted(answer_call(office, reader)))
    return answered


def answer_call(office, reader):
    call = reader.number()
    if call == CHECK:
        return office.check(reader.row())
    if call == GONE:
        return office.gone(reader.number())
    if call == LETTERS:
        return office.letters(reader.row())
    if call == RUN or call == VALUE:
        return answer_about_pair(call, office, reader)
    if call == CHECKS:
        return office.checks()
    return answer_search(call, office, reader)


def answer_about_pair(call, office, reader):
    sentence = reader.row()
    translation = reader.row()
    if call == RUN:
        return office.run(sentence, translation)
    return office.value(sentence, translation, reader.row())


def answer_search(call, office, reader):
    if call == FINE:
        return office.fine(reader.number())
    if call == ALONE:
        number = reader.number()
        return office.alone(number, reader.number())
    if call == APART:
        number = reader.number()
        other = reader.number()
        return office.apart(number, other, reader.number())
    if call == CLASH:
        return office.clash(reader.number())
    if call == EACH:
        most_words = reader.number()
        return office.each(most_words, reader.row())
    raise UnknownCall(f"no call {call}")
