"""The calls by their numbers, and how they are read from a list."""

FORM = 0
BOTH = 1
HULL = 2
LATER = 3
SOONER = 4
SET = 5
BACK = 6
FREE = 7
WIDE = 8
IN_ZONE = 9
HAS = 10
EMPTY = 11
INIT = 12
PLACE = 13
EDGE = 14
CAN = 15
ROW = 16
PLACES = 17
LEAD = 18

# For each call, by its number: how many whole numbers it has, and how many rows behind them.
SHAPES = (
    (0, 1),
    (0, 2),
    (0, 2),
    (0, 1),
    (0, 1),
    (2, 1),
    (2, 1),
    (1, 1),
    (1, 1),
    (0, 2),
    (4, 1),
    (0, 1),
    (1, 1),
    (1, 1),
    (3, 1),
    (1, 1),
    (1, 1),
    (0, 0),
    (0, 1),
)


class Call:
    """One call as it is read; after is where the next one begins."""

    def __init__(self, number, wholes, rows, after):
        self.number = number
        self.wholes = wholes
        self.rows = rows
        self.after = after


def read_call(calls, start):
    number = calls[start]
    shape = SHAPES[number]
    after = start + 1 + shape[0]
    wholes = calls[start + 1:after]
    rows = []
    while len(rows) < shape[1]:
        begin = after + 1
        after = begin + calls[after]
        rows.append(calls[begin:after])
    return Call(number, wholes, rows, after)
