"""Deeds: what a session does to rows, and what it is replied."""

from manywriters.calls import ASK, DROP, LOOK, PUT, REPLACE
from manywriters.conditions import holds, read_condition
from manywriters.rows import read_row


# The call tells the kind of deed. What the kind has no use for is None.
class Deed:
    def __init__(self, call, number, row, condition):
        self.call = call
        self.number = number
        self.row = row
        self.condition = condition


def read_deed(schema, call, next_row):
    if call.number == PUT:
        return Deed(PUT, next_row, read_row(schema, call.text), None)
    if call.number == ASK:
        return Deed(ASK, None, None, read_condition(schema, call.text))
    if call.number == REPLACE:
        return Deed(REPLACE, call.numbers[1], read_row(schema, call.text), None)
    return Deed(call.number, call.numbers[1], None, None)


# A reply is kept as the numbers that are answered: two replies to one deed
# are alike just when these are.
def reply_of(rows, deed):
    if deed.call == PUT:
        return [deed.number]
    if deed.call == ASK:
        return reply_to_ask(rows, deed.condition)
    if deed.number not in rows:
        return [0]
    if deed.call == LOOK:
        text = rows[deed.number].text
        return [len(text)] + text
    return [1]


def reply_to_ask(rows, condition):
    numbers = [number for number in sorted(rows) if holds(rows[number], condition)]
    return [len(numbers)] + numbers


# Rows are copied before a change, as others still have the rows from before it.
def rows_after(rows, deed):
    if deed.call in (LOOK, ASK):
        return rows
    if deed.call != PUT and deed.number not in rows:
        return rows
    after = dict(rows)
    if deed.call == DROP:
        after.pop(deed.number)
    else:
        after[deed.number] = deed.row
    return after
