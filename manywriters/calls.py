"""Calls, as they are written one behind another in one list of whole numbers."""

SCHEMA = 0
PUT = 2
LOOK = 3
ASK = 4
REPLACE = 5
DROP = 6

# For each call, by its number: how many whole numbers it has, and whether a text comes behind them.
LAYOUT = (
    (0, True),  # schema
    (0, False),  # begin
    (1, True),  # put
    (2, False),  # look
    (1, True),  # ask
    (2, True),  # replace
    (2, False),  # drop
    (2, False),  # undo
    (1, False),  # why
    (1, False),  # again
    (2, False),  # commit
    (1, False),  # close
    (0, False),  # rows
    (1, False),  # row
    (1, False),  # then
)


class Call:
    def __init__(self, number, numbers, text):
        self.number = number
        self.numbers = numbers
        self.text = text


def split_calls(written):
    found = []
    place = 0
    while place < len(written):
        number = written[place]
        layout = LAYOUT[number]
        numbers_end = place + 1 + layout[0]
        numbers = written[place + 1:numbers_end]
        place = numbers_end
        text = []
        if layout[1]:
            place = numbers_end + 1 + written[numbers_end]
            text = written[numbers_end + 1:place]
        found.append(Call(number, numbers, text))
    return found
