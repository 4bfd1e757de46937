"""Leaf kinds, and the literals of their values."""

from manywriters.reader import NotInForm
from manywriters.signs import BACKSLASH, BLANK, MINUS, QUOTE, SMALL_A, SMALL_B, SMALL_F, SMALL_I, SMALL_T, TILDE, ZERO
from manywriters.signs import is_digit

# The ends of the widest kind, i64, have this many digits.
MOST_LITERAL_DIGITS = 19


# Of a text's kind, low and high bound how many bytes there are, else the number itself.
# So `b` is nothing but whole numbers from 0 to 1.
class Leaf:
    def __init__(self, sign, low, high):
        self.sign = sign
        self.low = low
        self.high = high

    def is_text(self):
        return self.sign == SMALL_T


def read_leaf(reader):
    sign = reader.take()
    if sign == SMALL_B:
        return Leaf(sign, 0, 1)
    if sign == SMALL_I:
        half = power_of_two(read_size(reader, 2, 64) - 1)
        return Leaf(sign, -half, half - 1)
    if sign == SMALL_T:
        return Leaf(sign, 0, read_size(reader, 1, 999))
    raise NotInForm()


def read_size(reader, least, most):
    size = reader.read_digits(3)
    if size < least or size > most:
        raise NotInForm()
    return size


def power_of_two(exponent):
    power = 1
    for step in range(exponent):
        power = power * 2
    return power


# Both kinds of values compare by Python's own order as literals are ordered:
# whole numbers by number, lists of bytes by the first byte that differs.
def read_literal(reader, leaf):
    if leaf.is_text():
        return read_text_literal(reader, leaf.high)
    return read_whole_literal(reader, leaf)


def read_whole_literal(reader, leaf):
    below_zero = reader.passes(MINUS)
    number = reader.read_digits(MOST_LITERAL_DIGITS)
    if below_zero:
        if number == 0:
            raise NotInForm()
        number = -number
    if number < leaf.low or number > leaf.high:
        raise NotInForm()
    return number


def read_text_literal(reader, most):
    reader.need(QUOTE)
    found = []
    while not reader.passes(QUOTE):
        found.append(read_byte(reader))
    if len(found) > most:
        raise NotInForm()
    return found


# A byte has just one way to be written, so that equal rows have equal texts.
def read_byte(reader):
    sign = reader.take()
    if sign != BACKSLASH:
        if not stands_as_itself(sign):
            raise NotInForm()
        return sign
    greater = read_base_sixteen(reader)
    byte = greater * 16 + read_base_sixteen(reader)
    if stands_as_itself(byte):
        raise NotInForm()
    return byte


def stands_as_itself(byte):
    return BLANK <= byte <= TILDE and byte != QUOTE and byte != BACKSLASH


def read_base_sixteen(reader):
    sign = reader.take()
    if is_digit(sign):
        return sign - ZERO
    if SMALL_A <= sign <= SMALL_F:
        return sign - SMALL_A + 10
    raise NotInForm()
