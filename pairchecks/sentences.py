"""Sentences: their bounds, and all those of some letters, and all pairs of these, in order."""

LARGEST_WORD = 99
MOST_WORDS = 20
MOST_LETTERS = 5
MOST_SEARCHED_WORDS = 4
MOST_SEARCHED_SENTENCES = 31


def are_small(numbers):
    for number in numbers:
        if number > LARGEST_WORD:
            return False
    return True


def is_sentence(words):
    return len(words) <= MOST_WORDS and are_small(words)


def are_letters(numbers):
    if len(numbers) == 0 or len(numbers) > MOST_LETTERS:
        return False
    return are_small(numbers) and are_rising(numbers)


def are_rising(numbers):
    for place in range(1, len(numbers)):
        if numbers[place] <= numbers[place - 1]:
            return False
    return True


def can_be_searched(letters, most_words):
    # Asked first: the bound may be far too large to count up to.
    if most_words > MOST_SEARCHED_WORDS:
        return False
    return count_sentences(len(letters), most_words) <= MOST_SEARCHED_SENTENCES


def count_sentences(letter_count, most_words):
    total = 1
    as_long = 1
    for length in range(most_words):
        as_long *= letter_count
        total += as_long
    return total


def sentences_in_order(letters, most_words):
    sentences = [[]]
    as_long = [[]]
    for length in range(most_words):
        as_long = one_word_longer(as_long, letters)
        sentences.extend(as_long)
    return sentences


# Letters rise, so sentences that were in order are so again with a word more.
def one_word_longer(sentences, letters):
    longer = []
    for sentence in sentences:
        for letter in letters:
            longer.append(sentence + [letter])
    return longer


def pairs_in_order(letters, most_words):
    sentences = sentences_in_order(letters, most_words)
    pairs = []
    for sentence in sentences:
        for translation in sentences:
            pairs.append((sentence, translation))
    return pairs
