"""Reading the calls out of the one list that they stand in."""

# Of each call how many whole numbers it has, and how many rows behind them.
SHAPES = {1: (2, 1), 2: (2, 1), 3: (2, 0), 4: (4, 0), 5: (4, 2), 6: (0, 0), 7: (0, 0), 8: (1, 0), 9: (0, 0),
          10: (1, 0), 11: (1, 0), 12: (0, 0), 13: (4, 0)}


class Call:
    """A call: its number, its whole numbers, its rows, and where the next one begins."""

    def __init__(self, number, numbers, rows, behind):
        self.number = number
        self.numbers = numbers
        self.rows = rows
        self.behind = behind


def read_call(calls, start):
    """The call that begins at start; its numbers and rows are copies."""
    number = calls[start]
    shape = SHAPES[number]
    place = start + 1 + shape[0]
    numbers = calls[start + 1:place]
    rows = []
    while len(rows) < shape[1]:
        behind = place + 1 + calls[place]
        rows.append(calls[place + 1:behind])
        place = behind
    return Call(number, numbers, rows, place)
