"""Going through a list of numbers from its beginning to its end, without changing it."""


class Reader:
    def __init__(self, numbers):
        self.numbers = numbers
        self.place = 0

    def at_end(self):
        return self.place == len(self.numbers)

    def number(self):
        self.place += 1
        return self.numbers[self.place - 1]

    def row(self):
        size = self.number()
        start = self.place
        self.place = start + size
        return self.numbers[start:self.place]
