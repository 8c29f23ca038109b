"""Takes a line of calls apart, number by number."""


class Reader:
    """Walks a list of numbers from its beginning, without changing it."""

    def __init__(self, numbers):
        self.numbers = numbers
        self.place = 0

    def at_end(self):
        """Whether all numbers are taken."""
        return self.place >= len(self.numbers)

    def take_number(self):
        """The next number."""
        number = self.numbers[self.place]
        self.place += 1
        return number

    def take_list(self):
        """The next list, which has its length before it."""
        length = self.take_number()
        begin = self.place
        self.place += length
        return self.numbers[begin:self.place]

    def take_lists(self):
        """The next lists, which have their count before them."""
        count = self.take_number()
        taken = []
        for turn in range(count):
            taken.append(self.take_list())
        return taken
