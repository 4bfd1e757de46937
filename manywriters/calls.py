"""Calls, as they are written one behind another in one list of whole numbers."""

SCHEMA = 0
PUT = 2
LOOK = 3
ASK = 4
REPLACE = 5
DROP = 6

# For each call, by its number: how many whole numbers it has, and whether a text comes behind them.
LAYOUT = (
    (0, True),  # schema
    (0, False),  # begin
    (1, True),  # put
    (2, False),  # look
    (1, True),  # ask
    (2, True),  # replace
    (2, False),  # drop
    (2, False),  # undo
    (1, False),  # why
    (1, False),  # again
    (2, False),  # commit
    (1, False),  # close
    (0, False),  # rows
    (1, False),  # row
    (1, False),  # then
)


# The calls of which the first whole number is a session's.
IN_SESSION = (2, 3, 4, 5, 6, 7, 8, 9, 10, 11)


# The place is where the call begins in the list: no other call of it has this one.
class Call:
    def __init__(self, place, number, numbers, text):
        self.place = place
        self.number = number
        self.numbers = numbers
        self.text = text


def split_calls(written):
    found = []
    place = 0
    while place < len(written):
        number = written[place]
        layout = LAYOUT[number]
        numbers_end = place + 1 + layout[0]
        call_end = numbers_end
        text = []
        if layout[1]:
            call_end = numbers_end + 1 + written[numbers_end]
            text = written[numbers_end + 1:call_end]
        found.append(Call(place, number, written[place + 1:numbers_end], text))
        place = call_end
    return found
