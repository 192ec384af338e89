"""From the bytes of a script to its tokens."""

from linepatches.errors import Fault
from linepatches.letters import LINE_END, is_letter, letter_of

MOST_BYTES = 4096
LONGEST_WORD = 8
GREATEST_NUMBER = 1000000000
MOST_DIGITS = 10

BLANKS = (32, 9, 10)
REMARK = 35
SEMICOLON = 59
FIRST_DIGIT = 48
LAST_DIGIT = 57

SIGN = ";"
END = ""

OWN_WORDS = (
    "if", "all", "line", "from", "to", "last", "has", "is", "not",
    "delete", "before", "after", "change", "swap", "first",
    "keep", "bring", "trade", "skip", "stop", "none",
)


class Token:
    """A token: a word, the sign or the end as a text, a number as a number; and its place."""

    def __init__(self, value, place):
        self.value = value
        self.place = place


def is_letters(word):
    """Tell whether a word of small letters may stand where a script asks for letters."""
    return 1 <= len(word) <= LONGEST_WORD and word not in OWN_WORDS


def is_digit(byte):
    """Tell whether a byte is a digit."""
    return FIRST_DIGIT <= byte <= LAST_DIGIT


def tokens_of(script):
    """Give the tokens of a script, the end among them, or raise fault 1 or 2."""
    if len(script) > MOST_BYTES:
        raise Fault(1, MOST_BYTES)
    tokens = []
    at = past_blanks(script, 0)
    while at < len(script):
        end = token_end(script, at)
        tokens.append(Token(token_value(script, at, end), at))
        at = past_blanks(script, end)
    tokens.append(Token(END, len(script)))
    return tokens


def past_blanks(script, at):
    """Give the first place from at on that is neither blank nor in a remark."""
    in_remark = False
    while at < len(script):
        if script[at] == LINE_END:
            in_remark = False
        elif script[at] == REMARK:
            in_remark = True
        elif not in_remark and script[at] not in BLANKS:
            break
        at += 1
    return at


def token_end(script, at):
    """Give the place behind the token that begins at a place."""
    if script[at] == SEMICOLON:
        return at + 1
    if is_letter(script[at]):
        return run_end(script, at, is_letter)
    if is_digit(script[at]):
        return run_end(script, at, is_digit)
    raise Fault(2, at)


def run_end(script, at, belongs):
    """Give the first place from at on whose byte does not belong."""
    while at < len(script) and belongs(script[at]):
        at += 1
    return at


def token_value(script, at, end):
    """Give what the token between two places says."""
    if script[at] == SEMICOLON:
        return SIGN
    if is_letter(script[at]):
        return word_value(script, at, end)
    return number_value(script, at, end)


def word_value(script, at, end):
    """Give the word between two places."""
    if end - at > LONGEST_WORD:
        raise Fault(2, at)
    return "".join([letter_of(byte) for byte in script[at:end]])


def number_value(script, at, end):
    """Give the number between two places."""
    needless_zero = script[at] == FIRST_DIGIT and end - at > 1
    if needless_zero or end - at > MOST_DIGITS:
        raise Fault(2, at)
    value = 0
    for byte in script[at:end]:
        value = value * 10 + byte - FIRST_DIGIT
    if value > GREATEST_NUMBER:
        raise Fault(2, at)
    return value
