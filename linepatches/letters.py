"""Letters, the ends of lines, and their bytes."""

LETTERS = "abcdefghijklmnopqrstuvwxyz"
FIRST_LETTER = 97
LAST_LETTER = 122
LINE_END = 10


def is_letter(byte):
    """Tell whether a byte is a small letter."""
    return FIRST_LETTER <= byte <= LAST_LETTER


def letter_of(byte):
    """Give the small letter that a byte stands for."""
    return LETTERS[byte - FIRST_LETTER]


def bytes_of(told):
    """Give the bytes of a text in Python's sense."""
    return [ord(sign) for sign in told]
