"""Choosing as few numbers as can be so that each of some rows has one of them."""


# None where no choice will do: a row without numbers has none of any.
def fewest_in_each(rows, numbers):
    choices = [[]]
    while len(choices) > 0:
        for choice in choices:
            if is_in_each(choice, rows):
                return choice
        choices = one_number_longer(choices, numbers)
    return None


def is_in_each(choice, rows):
    for row in rows:
        if not share_one(choice, row):
            return False
    return True


def share_one(numbers, others):
    for number in numbers:
        if number in others:
            return True
    return False


# The numbers rise, so choices that were in order are so again with a number more.
def one_number_longer(choices, numbers):
    longer = []
    for choice in choices:
        for number in numbers:
            if len(choice) == 0 or number > choice[-1]:
                longer.append(choice + [number])
    return longer
