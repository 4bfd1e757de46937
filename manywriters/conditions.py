"""Conditions: their texts, and which rows hold them."""

from manywriters.leaves import read_literal
from manywriters.reader import NotInForm, Reader
from manywriters.rows import values_along
from manywriters.signs import AMPERSAND, BAR, BIG_F, BIG_T, CARET, COMMA, DOT, EQUALS, EXCLAMATION, GREATER, LESS
from manywriters.signs import QUESTION, ROUND_LEFT, ROUND_RIGHT, SQUARE_LEFT, SQUARE_RIGHT

MOST_CONDITION_BYTES = 500
MOST_AROUND = 20


class Atom:
    def __init__(self, path, test, literal):
        self.path = path
        self.test = test
        self.literal = literal


# The conditions that stand straight within one that begins with this sign.
class Compound:
    def __init__(self, sign, parts):
        self.sign = sign
        self.parts = parts


def read_condition(schema, text):
    if len(text) > MOST_CONDITION_BYTES:
        raise NotInForm()
    reader = Reader(text)
    condition = read_within(reader, schema, 0)
    reader.need_end()
    return condition


# `around` is how many conditions this one stands in.
def read_within(reader, schema, around):
    if around > MOST_AROUND:
        raise NotInForm()
    sign = reader.take()
    if sign == ROUND_LEFT:
        return read_atom(reader, schema)
    if sign in (BIG_T, BIG_F):
        return Compound(sign, [])
    if sign == EXCLAMATION:
        return Compound(sign, [read_within(reader, schema, around + 1)])
    if sign in (AMPERSAND, BAR):
        return Compound(sign, read_parts(reader, schema, around + 1))
    raise NotInForm()


def read_parts(reader, schema, around):
    reader.need(SQUARE_LEFT)
    parts = [read_within(reader, schema, around)]
    while reader.passes(COMMA):
        parts.append(read_within(reader, schema, around))
    reader.need(SQUARE_RIGHT)
    return parts


def read_atom(reader, schema):
    dotted = read_dotted(reader)
    if dotted not in schema.columns:
        raise NotInForm()
    column = schema.columns[dotted]
    test = reader.take()
    literal = None
    if test != QUESTION:
        if not is_test_of(test, column.leaf):
            raise NotInForm()
        literal = read_literal(reader, column.leaf)
    reader.need(ROUND_RIGHT)
    return Atom(column.path, test, literal)


def read_dotted(reader):
    dotted = reader.read_name()
    while reader.passes(DOT):
        dotted = dotted + (DOT,) + reader.read_name()
    return dotted


def is_test_of(test, leaf):
    if test == CARET:
        return leaf.is_text()
    return test in (LESS, GREATER, EQUALS)


def holds(row, condition):
    if isinstance(condition, Atom):
        return holds_atom(row, condition)
    if condition.sign == BIG_T:
        return True
    if condition.sign == BIG_F:
        return False
    if condition.sign == EXCLAMATION:
        return not holds(row, condition.parts[0])
    if condition.sign == AMPERSAND:
        return holds_all(row, condition.parts)
    return holds_some(row, condition.parts)


def holds_all(row, parts):
    for part in parts:
        if not holds(row, part):
            return False
    return True


def holds_some(row, parts):
    for part in parts:
        if holds(row, part):
            return True
    return False


def holds_atom(row, atom):
    for value in values_along(row, atom.path):
        if holds_test(value, atom.test, atom.literal):
            return True
    return False


def holds_test(value, test, literal):
    if test == LESS:
        return value < literal
    if test == GREATER:
        return value > literal
    if test == EQUALS:
        return value == literal
    if test == CARET:
        return value[:len(literal)] == literal
    return True
