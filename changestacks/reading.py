"""Reading the list of calls, number by number."""


# The list is only looked at, so that it stays as it was handed in.
class Reader:
    def __init__(self, calls):
        self.calls = calls
        self.at = 0

    def is_done(self):
        return self.at >= len(self.calls)

    def take_number(self):
        number = self.calls[self.at]
        self.at += 1
        return number

    def take_row(self):
        size = self.take_number()
        row = tuple(self.calls[self.at:self.at + size])
        self.at += size
        return row
