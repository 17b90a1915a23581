"""Numbers taken one behind another."""

from looprounds.refusals import NotWhole


class Row:
    """A list of numbers and the place up to which it has been taken; the list itself is only read."""

    def __init__(self, numbers):
        self.numbers = numbers
        self.place = 0

    def more(self):
        return self.place < len(self.numbers)

    def number(self):
        if not self.more():
            raise NotWhole()
        taken = self.numbers[self.place]
        self.place += 1
        return taken

    def within(self, least, most):
        taken = self.number()
        if taken < least or taken > most:
            raise NotWhole()
        return taken

    def part(self):
        """The numbers of a list that stands with its length ahead of it."""
        size = self.number()
        start = self.place
        self.place += size
        return self.numbers[start:self.place]

    def finish(self):
        if self.more():
            raise NotWhole()
