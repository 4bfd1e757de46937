"""Rows: values of a schema's outermost record, and their texts."""

from manywriters.leaves import Leaf, read_literal
from manywriters.reader import NotInForm, Reader
from manywriters.schemas import ANY_NUMBER, JUST_ONE, KEYED
from manywriters.signs import COLON, COMMA, CURLY_LEFT, CURLY_RIGHT, GREATER, LESS, SEMICOLON

MOST_ROW_BYTES = 4000


# A group's value is a list that has for each field the list of its occurrences.
# A choice's is no other: all its lists are empty but the taken field's.
# By the places of asks that were done to the row, held has whether it holds their conditions.
class Row:
    def __init__(self, text, record):
        self.text = text
        self.record = record
        self.held = {}


def read_row(schema, text):
    if len(text) > MOST_ROW_BYTES:
        raise NotInForm()
    reader = Reader(text)
    record = read_record(reader, schema.record)
    reader.need_end()
    return Row(text, record)


def read_value(reader, kind):
    if isinstance(kind, Leaf):
        return read_literal(reader, kind)
    if kind.is_choice:
        return read_choice(reader, kind)
    return read_record(reader, kind)


def read_record(reader, group):
    reader.need(CURLY_LEFT)
    record = []
    # The name that is read and waits for its field; fields ahead of that one have no occurrence.
    name = None
    if reader.ahead() != CURLY_RIGHT:
        name = reader.read_name()
    for field in group.fields:
        if name == field.name:
            reader.need(COLON)
            record.append(read_occurrences(reader, field))
            name = reader.read_name() if reader.passes(SEMICOLON) else None
        elif field.mode == JUST_ONE:
            raise NotInForm()
        else:
            record.append([])
    if name is not None:
        raise NotInForm()
    reader.need(CURLY_RIGHT)
    return record


def read_occurrences(reader, field):
    occurrences = [read_value(reader, field.kind)]
    while reader.passes(COMMA):
        if field.mode not in (ANY_NUMBER, KEYED):
            raise NotInForm()
        value = read_value(reader, field.kind)
        if field.mode == KEYED and key_of(value) <= key_of(occurrences[-1]):
            raise NotInForm()
        occurrences.append(value)
    return occurrences


# The key is the one occurrence of the record's first field.
def key_of(record):
    return record[0][0]


def read_choice(reader, group):
    reader.need(LESS)
    name = reader.read_name()
    if name not in [field.name for field in group.fields]:
        raise NotInForm()
    reader.need(COLON)
    choice = []
    for field in group.fields:
        choice.append([read_value(reader, field.kind)] if field.name == name else [])
    reader.need(GREATER)
    return choice


# The items of a column without the gaps: nothing asks for these.
def values_along(row, path):
    found = [row.record]
    for place in path:
        deeper = []
        for value in found:
            deeper.extend(value[place])
        found = deeper
    return found
