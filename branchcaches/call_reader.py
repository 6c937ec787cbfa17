"""Reads a list of calls number by number; the list itself is never changed."""


class Reader:
    def __init__(self, calls):
        self.calls = calls
        self.place = 0

    def is_done(self):
        return self.place >= len(self.calls)

    def take_number(self):
        number = self.calls[self.place]
        self.place += 1
        return number

    def take_list(self):
        length = self.take_number()
        begin = self.place
        self.place += length
        return self.calls[begin:begin + length]

    def take_lists(self):
        lists = []
        for turn in range(self.take_number()):
            lists.append(self.take_list())
        return lists
