"""The bytes that formulas are spelled with."""

DOLLAR = 36
OPENING = 40
CLOSING = 41
COMMA = 44
MINUS = 45
ZERO = 48
NINE = 57
COLON = 58
EQUALS = 61
LETTER_A = 65


def is_digit(byte):
    return ZERO <= byte <= NINE


def spelled(word):
    return [ord(sign) for sign in word]
