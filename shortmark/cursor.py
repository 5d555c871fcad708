"""Going through a list of numbers from its beginning to its end."""


class Cursor:
    """How far a list has been gone through; the list itself is never changed."""

    def __init__(self, numbers):
        self.numbers = numbers
        self.place = 0

    def is_through(self):
        return self.place >= len(self.numbers)

    def take_number(self):
        number = self.numbers[self.place]
        self.place += 1
        return number

    def take_row(self):
        """A copy of a row that has its length before it."""
        length = self.take_number()
        row = self.numbers[self.place:self.place + length]
        self.place += length
        return row
