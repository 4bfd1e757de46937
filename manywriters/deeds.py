"""Deeds: what a session does to rows, and what it is replied."""

from manywriters.calls import ASK, DROP, LOOK, PUT, REPLACE
from manywriters.conditions import holds, read_condition
from manywriters.rows import read_row


# The call's number tells the kind of deed, its place tells this deed from all others.
# What the kind has no use for is None.
class Deed:
    def __init__(self, place, call, number, row, condition):
        self.place = place
        self.call = call
        self.number = number
        self.row = row
        self.condition = condition


def read_deed(schema, call, next_row):
    if call.number == PUT:
        return Deed(call.place, PUT, next_row, read_row(schema, call.text), None)
    if call.number == ASK:
        return Deed(call.place, ASK, None, None, read_condition(schema, call.text))
    if call.number == REPLACE:
        return Deed(call.place, REPLACE, call.numbers[1], read_row(schema, call.text), None)
    return Deed(call.place, call.number, call.numbers[1], None, None)


# A reply is kept as the numbers that are answered: two replies to one deed
# are alike just when these are.
def reply_of(rows, deed):
    if deed.call == PUT:
        return [deed.number]
    if deed.call == ASK:
        return reply_to_ask(rows, deed)
    if deed.number not in rows:
        return [0]
    if deed.call == LOOK:
        text = rows[deed.number].text
        return [len(text)] + text
    return [1]


def reply_to_ask(rows, deed):
    numbers = [number for number in sorted(rows) if holds_asked(rows[number], deed)]
    return [len(numbers)] + numbers


# Deeds are done over and over, mostly to the same rows, and to go through a long row takes its time:
# so each row keeps what it was found to hold.
def holds_asked(row, deed):
    if deed.place not in row.held:
        row.held[deed.place] = holds(row, deed.condition)
    return row.held[deed.place]


# Rows are copied before a change, as others still have the rows from before it.
def rows_after(rows, deed):
    if deed.call in (LOOK, ASK):
        return rows
    if deed.call != PUT and deed.number not in rows:
        return rows
    after = dict(rows)
    if deed.call == DROP:
        after.pop(deed.number)
    else:
        after[deed.number] = deed.row
    return after
