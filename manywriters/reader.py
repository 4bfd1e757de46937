"""A text gone through from its first sign to its end."""

from manywriters.signs import ZERO, is_digit, is_letter, is_name_sign

MOST_NAME_SIGNS = 12

# No byte has this number, so no sign is taken for the end.
TEXT_END = -1


class NotInForm(Exception):
    pass


class Reader:
    def __init__(self, text):
        self.text = text
        self.place = 0

    def ahead(self):
        if self.place < len(self.text):
            return self.text[self.place]
        return TEXT_END

    def take(self):
        sign = self.ahead()
        if sign == TEXT_END:
            raise NotInForm()
        self.place = self.place + 1
        return sign

    def passes(self, sign):
        if self.ahead() != sign:
            return False
        self.place = self.place + 1
        return True

    def need(self, sign):
        if not self.passes(sign):
            raise NotInForm()

    def need_end(self):
        if self.place != len(self.text):
            raise NotInForm()

    # A bound on the digits keeps the numbers small, however long the text is.
    def read_digits(self, most):
        start = self.place
        while is_digit(self.ahead()):
            self.place = self.place + 1
        written = self.text[start:self.place]
        if len(written) == 0 or len(written) > most:
            raise NotInForm()
        if written[0] == ZERO and len(written) > 1:
            raise NotInForm()
        number = 0
        for sign in written:
            number = number * 10 + sign - ZERO
        return number

    # A tuple, so that names can be the keys of a dict.
    def read_name(self):
        start = self.place
        while is_name_sign(self.ahead()):
            self.place = self.place + 1
        written = tuple(self.text[start:self.place])
        if len(written) == 0 or len(written) > MOST_NAME_SIGNS:
            raise NotInForm()
        if not is_letter(written[0]):
            raise NotInForm()
        return written
