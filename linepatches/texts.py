"""From the bytes of a text to its lines, and back."""

from linepatches.errors import NotAText
from linepatches.letters import LINE_END, bytes_of, is_letter, letter_of

MOST_LETTERS = 16
MOST_LINES = 24


def lines_of(told):
    """Give the lines of a text that is told as bytes, or refuse it."""
    lines = []
    line = ""
    for byte in told:
        if byte == LINE_END:
            lines.append(line)
            line = ""
        elif is_letter(byte):
            line += letter_of(byte)
        else:
            raise NotAText()
        if len(line) > MOST_LETTERS or len(lines) > MOST_LINES:
            raise NotAText()
    if line != "":
        raise NotAText()
    return lines


def told_text(lines):
    """Give the numbers by which a text is told, the counts of its lines and bytes ahead."""
    told = bytes_of("".join([line + "\n" for line in lines]))
    return [len(lines), len(told)] + told
