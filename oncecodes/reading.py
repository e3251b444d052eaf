"""A list of calls, read call by call."""

# Of each call's number: how many whole numbers it has, and how many rows behind these.
FORMS = {
    0: (2, 1),
    1: (0, 2),
    2: (0, 2),
    3: (0, 2),
    4: (3, 1),
    10: (0, 1),
    11: (3, 1),
    12: (1, 0),
    13: (2, 1),
    14: (3, 1),
    15: (1, 0),
    16: (4, 0),
    17: (1, 1),
    18: (0, 1),
    19: (1, 0),
    20: (1, 0),
    21: (0, 1),
    22: (0, 3),
}


class Call:
    """A call's number, its whole numbers and its rows."""

    def __init__(self, number, wholes, rows):
        self.number = number
        self.wholes = wholes
        self.rows = rows


class Reader:
    """Goes through a list of calls, and leaves it as it is."""

    def __init__(self, calls):
        self.calls = calls
        self.position = 0

    def at_end(self):
        """Whether all calls have been read."""
        return self.position >= len(self.calls)

    def read_whole(self):
        """The next number."""
        number = self.calls[self.position]
        self.position += 1
        return number

    def read_row(self):
        """The next row, which has its length before it."""
        length = self.read_whole()
        start = self.position
        self.position += length
        return self.calls[start:start + length]

    def read_call(self):
        """The next call."""
        number = self.read_whole()
        form = FORMS[number]
        wholes = [self.read_whole() for k in range(form[0])]
        rows = [self.read_row() for k in range(form[1])]
        return Call(number, wholes, rows)
