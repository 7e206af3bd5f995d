"""Rows of bytes, and the bytes that have a meaning of their own."""

NEWLINE = 10
BLANK = 32
COMMA = 44
HYPHEN = 45
ZERO = 48
COLON = 58
BACKSLASH = 92


def row_of(text):
    return [ord(sign) for sign in text]


def counted(row):
    return [len(row)] + row


def split_row(row, mark):
    """Answer the pieces between the marks, one more than there are marks."""
    pieces = []
    piece = []
    for byte in row:
        if byte == mark:
            pieces.append(piece)
            piece = []
        else:
            piece.append(byte)
    pieces.append(piece)
    return pieces


def is_small_letter(byte):
    return 97 <= byte <= 122


def is_digit(byte):
    return ZERO <= byte <= ZERO + 9


def number_of(digits):
    number = 0
    for digit in digits:
        number = number * 10 + digit - ZERO
    return number
