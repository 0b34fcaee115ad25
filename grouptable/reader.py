"""Reading calls from one list of whole numbers."""


class Reader:
    """Goes through a list from its beginning, and never changes it."""

    def __init__(self, numbers):
        self.numbers = numbers
        self.place = 0

    def at_end(self):
        return self.place >= len(self.numbers)

    def read_number(self):
        number = self.numbers[self.place]
        self.place += 1
        return number

    def read_row(self):
        """A row has how many numbers it has before it."""
        start = self.place + 1
        self.place = start + self.numbers[self.place]
        return self.numbers[start:self.place]
