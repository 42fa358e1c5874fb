"""Goes through a list of calls, number by number, without changing it."""


class Reader:
    def __init__(self, calls):
        self.calls = calls
        self.place = 0

    def has_more(self):
        return self.place < len(self.calls)

    def take_number(self):
        number = self.calls[self.place]
        self.place += 1
        return number

    def take_list(self):
        length = self.take_number()
        first = self.place
        self.place += length
        return self.calls[first:self.place]
