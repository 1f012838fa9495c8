"""Reads whole numbers and rows of them from the front of a list."""


class Reader:
    """Goes through a list of whole numbers once; the list itself stays as it is."""

    def __init__(self, numbers):
        self.numbers = numbers
        self.place = 0

    def at_end(self):
        """Whether everything is read."""
        return self.place >= len(self.numbers)

    def take_number(self):
        """The next number."""
        number = self.numbers[self.place]
        self.place += 1
        return number

    def take_row(self):
        """The next row, which has its length before it."""
        length = self.take_number()
        row = self.numbers[self.place:self.place + length]
        self.place += length
        return row
