"""Takes one flat list of whole numbers apart into calls."""


class Call:
    """One call: its number, its whole numbers and its lists, whether they fit or not."""

    def __init__(self, number, wholes, lists):
        self.number = number
        self.wholes = wholes
        self.lists = lists


class Reader:
    """Goes through the flat list from its front; the list itself stays as it is."""

    def __init__(self, numbers):
        self.numbers = numbers
        self.place = 0

    def has_more(self):
        return self.place < len(self.numbers)

    def read_number(self):
        number = self.numbers[self.place]
        self.place = self.place + 1
        return number

    def read_list(self):
        length = self.read_number()
        first = self.place
        self.place = first + length
        # A slice is a copy, so that what a house keeps is never the caller's own list.
        return self.numbers[first:self.place]

    def read_lists(self):
        how_many = self.read_number()
        lists = []
        while len(lists) < how_many:
            lists.append(self.read_list())
        return lists

    def read_call(self):
        number = self.read_number()
        # Whole numbers lie in a call just as a list does: how many, then these.
        wholes = self.read_list()
        lists = self.read_lists()
        return Call(number, wholes, lists)
