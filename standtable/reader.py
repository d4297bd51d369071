"""Reads a list of numbers, as calls and tables are written in, from its beginning to its end."""


class Reader:
    """A list of whole numbers and how far it has been read. The list itself stays as it is."""

    def __init__(self, numbers):
        self.numbers = numbers
        self.position = 0

    def is_done(self):
        """Tell if all has been read."""
        return self.position >= len(self.numbers)

    def read_number(self):
        """Read the number that comes."""
        number = self.numbers[self.position]
        self.position = self.position + 1
        return number

    def read_numbers(self, length):
        """Read so many numbers, as a list of its own."""
        start = self.position
        self.position = start + length
        return self.numbers[start:self.position]

    def read_list(self):
        """Read a list that has its length before it, as a list of its own."""
        return self.read_numbers(self.read_number())
