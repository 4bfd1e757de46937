"""Schemas: the form that a table's rows have."""

from manywriters.leaves import Leaf, read_leaf, read_literal
from manywriters.reader import NotInForm, Reader
from manywriters.signs import CURLY_LEFT, CURLY_RIGHT, DOT, EQUALS, GREATER, LESS, SEMICOLON

MOST_SCHEMA_BYTES = 2000
MOST_DEPTH = 6
MOST_LEAVES = 40

# The modes, each as the number of its sign.
JUST_ONE = 33
PERHAPS_ONE = 63
ANY_NUMBER = 42
KEYED = 37


class Group:
    def __init__(self, is_choice, fields):
        self.is_choice = is_choice
        self.fields = fields


class Field:
    def __init__(self, number, name, mode, kind):
        self.number = number
        self.name = name
        self.mode = mode
        self.kind = kind


# The path tells a field's place among its group's fields, not its number:
# that is what rows are gone through by.
class Column:
    def __init__(self, path, leaf):
        self.path = path
        self.leaf = leaf


class Schema:
    def __init__(self, record, columns):
        self.record = record
        self.columns = columns


def read_schema(text):
    if len(text) > MOST_SCHEMA_BYTES:
        raise NotInForm()
    reader = Reader(text)
    record = read_group(reader, 1)
    reader.need_end()
    if record.is_choice:
        raise NotInForm()
    columns = {}
    add_columns(columns, record, (), ())
    if len(columns) > MOST_LEAVES:
        raise NotInForm()
    return Schema(record, columns)


def read_group(reader, depth):
    if depth > MOST_DEPTH:
        raise NotInForm()
    is_choice = reader.passes(LESS)
    if not is_choice:
        reader.need(CURLY_LEFT)
    fields = [read_field(reader, is_choice, depth)]
    while reader.passes(SEMICOLON):
        field = read_field(reader, is_choice, depth)
        check_beside(fields, field)
        fields.append(field)
    reader.need(GREATER if is_choice else CURLY_RIGHT)
    return Group(is_choice, fields)


def check_beside(fields, field):
    if field.number <= fields[-1].number:
        raise NotInForm()
    for other in fields:
        if other.name == field.name:
            raise NotInForm()


def read_field(reader, in_choice, depth):
    number = reader.read_digits(3)
    if number == 0:
        raise NotInForm()
    name = reader.read_name()
    mode = read_mode(reader, in_choice)
    kind = read_kind(reader, depth)
    if mode == KEYED and not has_key(kind):
        raise NotInForm()
    if reader.passes(EQUALS):
        if in_choice or mode != JUST_ONE or not isinstance(kind, Leaf):
            raise NotInForm()
        # A default bears on nothing but whether the text is a schema.
        read_literal(reader, kind)
    return Field(number, name, mode, kind)


def read_mode(reader, in_choice):
    mode = reader.take()
    if mode == JUST_ONE:
        return mode
    if in_choice or mode not in (PERHAPS_ONE, ANY_NUMBER, KEYED):
        raise NotInForm()
    return mode


def read_kind(reader, depth):
    if reader.ahead() in (CURLY_LEFT, LESS):
        return read_group(reader, depth + 1)
    return read_leaf(reader)


def has_key(kind):
    if isinstance(kind, Leaf) or kind.is_choice:
        return False
    first = kind.fields[0]
    return first.mode == JUST_ONE and isinstance(first.kind, Leaf)


# Names are unlike within a group, so no two leaves have one dotted name.
def add_columns(columns, group, path, dotted):
    for place, field in enumerate(group.fields):
        field_path = path + (place,)
        field_dotted = dotted + field.name
        if isinstance(field.kind, Leaf):
            columns[field_dotted] = Column(field_path, field.kind)
        else:
            add_columns(columns, field.kind, field_path, field_dotted + (DOT,))
