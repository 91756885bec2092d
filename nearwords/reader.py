"""Reads a list of calls from its beginning to its end, and leaves it as it is."""


class Reader:
    def __init__(self, calls):
        self.calls = calls
        self.place = 0

    def at_end(self):
        return self.place >= len(self.calls)

    def take_number(self):
        number = self.calls[self.place]
        self.place += 1
        return number

    def take_row(self):
        size = self.take_number()
        start = self.place
        self.place += size
        return self.calls[start:start + size]
