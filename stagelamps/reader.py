"""The list of calls, read from its front number by number."""


class CallReader:
    def __init__(self, calls):
        self.calls = calls
        self.place = 0

    def at_end(self):
        return self.place >= len(self.calls)

    def take_number(self):
        number = self.calls[self.place]
        self.place = self.place + 1
        return number

    def take_row(self):
        length = self.take_number()
        row = self.calls[self.place:self.place + length]
        self.place = self.place + length
        return row
