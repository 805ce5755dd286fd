"""How the calls lie in one list of whole numbers."""

BEGINS = 0
PART = 1
DEFINE = 2
NAME = 3
ORDER = 4
RULE = 5
FIRST = 6
WEEK = 7
YEARLY = 8
EASTERS = 9
CLOSED = 10
WAY = 11
SCALE = 12
RATE = 13
AMOUNT = 14
EVENT = 15
BRING = 16
TAKE = 17
REMEDY = 18
FACTS = 19
ASK = 20
WHY = 21
CASE = 22
OWED = 23
DIFFERS = 24
TURNS = 25

# Of each call, by its number: how many whole numbers it has, and whether a row stands behind them.
FORMS = (
    (0, False),
    (1, True),
    (4, True),
    (2, True),
    (3, False),
    (6, True),
    (2, False),
    (0, True),
    (2, False),
    (1, False),
    (1, False),
    (3, False),
    (5, True),
    (3, False),
    (1, False),
    (1, False),
    (2, True),
    (1, False),
    (7, False),
    (1, False),
    (2, False),
    (2, False),
    (1, False),
    (1, False),
    (2, False),
    (2, False),
)


class UnknownCall(ValueError):
    """There is no call with that number."""


class Call:
    """One call as it was read, and the place behind it in the list."""

    def __init__(self, number, numbers, row, behind):
        self.number = number
        self.numbers = numbers
        self.row = row
        self.behind = behind


def read_call(calls, place):
    """The call that begins at a place of the list."""
    number = calls[place]
    if not 0 <= number < len(FORMS):
        raise UnknownCall(f"no call has the number {number}")
    form = FORMS[number]
    numbers_begin = place + 1
    numbers_end = numbers_begin + form[0]
    # Slices are copies, so nothing that is kept of a call is part of the list that was handed in.
    numbers = calls[numbers_begin:numbers_end]
    if not form[1]:
        return Call(number, numbers, [], numbers_end)
    row_begin = numbers_end + 1
    row_end = row_begin + calls[numbers_end]
    return Call(number, numbers, calls[row_begin:row_end], row_end)
