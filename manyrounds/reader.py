"""The list of calls, read number by number."""


class Reader:
    """Where one stands in a list of calls. The list itself is only read."""

    def __init__(self, calls):
        self.calls = calls
        self.place = 0

    def at_end(self):
        return self.place >= len(self.calls)

    def take(self):
        """The next whole number."""
        number = self.calls[self.place]
        self.place += 1
        return number

    def take_row(self):
        """The next row, a list of its own; how many numbers it has stands before it."""
        length = self.take()
        start = self.place
        self.place = start + length
        return self.calls[start:start + length]
