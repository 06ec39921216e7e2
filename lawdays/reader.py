"""Walking through the list of calls."""


class Reader:
    """Goes from number to number, and leaves the list itself as it is."""

    def __init__(self, numbers):
        self.numbers = numbers
        self.place = 0

    def has_more(self):
        return self.place < len(self.numbers)

    def next_number(self):
        number = self.numbers[self.place]
        self.place = self.place + 1
        return number

    def next_row(self):
        size = self.next_number()
        row = self.numbers[self.place:self.place + size]
        self.place = self.place + size
        return row
