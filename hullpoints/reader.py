"""Going along a list of calls, number by number."""


class Reader:
    """Keeps how far a list has been read, so that the list itself stays as it is."""

    def __init__(self, numbers):
        self.numbers = numbers
        self.position = 0

    def has_more(self):
        return self.position < len(self.numbers)

    def take(self):
        number = self.numbers[self.position]
        self.position += 1
        return number

    def take_several(self, size):
        start = self.position
        self.position += size
        return self.numbers[start:self.position]

    def take_row(self):
        return self.take_several(self.take())
