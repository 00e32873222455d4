"""Reads a line of calls number by number, without changing it."""


class Reader:
    """A place in a list of numbers, which moves on as they are taken."""

    def __init__(self, numbers):
        self.numbers = numbers
        self.place = 0

    def is_done(self):
        return self.place >= len(self.numbers)

    def take_number(self):
        number = self.numbers[self.place]
        self.place = self.place + 1
        return number

    def take_row(self):
        """A copy of the row that stands next, behind the count of its numbers."""
        length = self.take_number()
        # A tuple, since words are looked up in dicts.
        row = tuple(self.numbers[self.place:self.place + length])
        self.place = self.place + length
        return row
