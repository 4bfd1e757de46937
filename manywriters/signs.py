"""The signs that texts are written with, each as the number of its byte."""

BLANK = 32
EXCLAMATION = 33
QUOTE = 34
AMPERSAND = 38
ROUND_LEFT = 40
ROUND_RIGHT = 41
COMMA = 44
MINUS = 45
DOT = 46
ZERO = 48
NINE = 57
COLON = 58
SEMICOLON = 59
LESS = 60
EQUALS = 61
GREATER = 62
QUESTION = 63
BIG_F = 70
BIG_T = 84
SQUARE_LEFT = 91
BACKSLASH = 92
SQUARE_RIGHT = 93
CARET = 94
UNDERSCORE = 95
SMALL_A = 97
SMALL_B = 98
SMALL_F = 102
SMALL_I = 105
SMALL_T = 116
SMALL_Z = 122
CURLY_LEFT = 123
BAR = 124
CURLY_RIGHT = 125
TILDE = 126


def is_digit(sign):
    return ZERO <= sign <= NINE


def is_letter(sign):
    return SMALL_A <= sign <= SMALL_Z


def is_name_sign(sign):
    return is_letter(sign) or is_digit(sign) or sign == UNDERSCORE
