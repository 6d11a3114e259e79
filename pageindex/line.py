"""A line: its calls, told one behind another in one list of whole numbers."""


class Reader:
    """Goes through a list of whole numbers from its first on; the list itself stays as it is."""

    def __init__(self, numbers):
        self.numbers = numbers
        self.place = 0

    def has_more(self):
        return self.place < len(self.numbers)

    def take(self):
        number = self.numbers[self.place]
        self.place = self.place + 1
        return number

    def take_counted(self):
        """The numbers of a list that is told with how many it has before it."""
        size = self.take()
        first = self.place
        self.place = first + size
        return self.numbers[first:self.place]

    def take_call(self):
        """A call: its number, its whole numbers, its lists."""
        number = self.take()
        numbers = self.take_counted()
        lists = []
        how_many = self.take()
        while len(lists) < how_many:
            lists.append(self.take_counted())
        return (number, numbers, lists)


def calls_of(numbers):
    """The calls of a line, in order."""
    reader = Reader(numbers)
    calls = []
    while reader.has_more():
        calls.append(reader.take_call())
    return calls
