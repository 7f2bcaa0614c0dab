"""Reads the numbers of calls one behind another, and leaves their list as it is."""


class Reader:
    def __init__(self, calls):
        self.calls = calls
        self.place = 0

    def at_end(self):
        return self.place >= len(self.calls)

    def read_number(self):
        number = self.calls[self.place]
        self.place += 1
        return number

    def read_numbers(self, many):
        numbers = self.calls[self.place:self.place + many]
        self.place += many
        return numbers

    def read_row(self):
        return self.read_numbers(self.read_number())
