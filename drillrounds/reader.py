"""Reads the numbers of the calls one behind another."""


class Reader:
    """The list that is read is somebody else's: it is never changed here."""

    def __init__(self, numbers):
        self.numbers = numbers
        self.position = 0

    def has_more(self):
        return self.position < len(self.numbers)

    def take(self):
        number = self.numbers[self.position]
        self.position += 1
        return number

    def take_row(self):
        """A row stands behind the count of its numbers."""
        size = self.take()
        row = self.numbers[self.position:self.position + size]
        self.position += size
        return row
