"""A list of whole numbers, read from its beginning on."""


class Row:
    """A list and the place up to which it has been read; the list itself is never changed."""

    def __init__(self, numbers):
        self.numbers = numbers
        self.place = 0

    def at_end(self):
        return self.place >= len(self.numbers)

    def take(self):
        number = self.numbers[self.place]
        self.place += 1
        return number

    def take_counted(self):
        """A list that lies there with how many numbers it has before it."""
        count = self.take()
        begin = self.place
        self.place = begin + count
        return self.numbers[begin:self.place]
