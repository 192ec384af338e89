"""From the bytes of a script to its commands."""

from linepatches.errors import Fault
from linepatches.tokens import END, SIGN, is_letters, tokens_of

MOST_COMMANDS = 16
MOST_NOTS = 3
GREATEST_LINE = 99
GREATEST_SKIP = 9

BARE_ADDRESSES = ("all", "last")
LETTERS_ADDRESSES = ("has", "is")
BARE_DEEDS = ("delete", "keep", "bring", "trade", "stop")
LETTERS_DEEDS = ("before", "after", "change")
SWAP_DEEDS = ("swap", "first")


class Command:
    """A command: its address and its deed, each a tuple of a word and what goes with it."""

    def __init__(self, address, deed):
        self.address = address
        self.deed = deed


class Reader:
    """The tokens of a script, taken one by one from the left."""

    def __init__(self, tokens):
        self.tokens = tokens
        self.taken = 0

    def following(self):
        """Give the token that is to be taken."""
        return self.tokens[self.taken]

    def take(self):
        """Take a token of any kind, and give what it says."""
        token = self.following()
        self.taken += 1
        return token.value

    def take_just(self, value):
        """Take a token that has to say this."""
        if self.following().value != value:
            raise Fault(3, self.following().place)
        return self.take()

    def take_number(self, least, greatest):
        """Take a number that has to be within these bounds."""
        token = self.following()
        if not isinstance(token.value, int):
            raise Fault(3, token.place)
        if token.value < least or token.value > greatest:
            raise Fault(7, token.place)
        return self.take()

    def take_letters(self):
        """Take a word that has to be none of the script's own."""
        token = self.following()
        if isinstance(token.value, int) or token.value == SIGN or not is_letters(token.value):
            raise Fault(3, token.place)
        return self.take()


def commands_of(script):
    """Give the commands of a script, or raise its first fault."""
    reader = Reader(tokens_of(script))
    commands = []
    while reader.following().value != END:
        if len(commands) == MOST_COMMANDS:
            raise Fault(4, reader.following().place)
        commands.append(read_command(reader))
    return commands


def read_command(reader):
    """Read a command up to its sign."""
    address = ("all",)
    if reader.following().value == "if":
        reader.take()
        address = read_address(reader)
    deed = read_deed(reader)
    reader.take_just(SIGN)
    return Command(address, deed)


def read_address(reader):
    """Read an address with the nots before it."""
    nots = 0
    while reader.following().value == "not":
        if nots == MOST_NOTS:
            raise Fault(4, reader.following().place)
        reader.take()
        nots += 1
    address = read_plain_address(reader)
    for turn in range(nots):
        address = ("not", address)
    return address


def read_plain_address(reader):
    """Read an address that begins with no not."""
    place = reader.following().place
    word = reader.take()
    if word in BARE_ADDRESSES:
        return (word,)
    if word in LETTERS_ADDRESSES:
        return (word, reader.take_letters())
    if word == "line":
        return (word, reader.take_number(1, GREATEST_LINE))
    if word == "from":
        least = reader.take_number(1, GREATEST_LINE)
        reader.take_just("to")
        return (word, least, reader.take_number(least, GREATEST_LINE))
    raise Fault(3, place)


def read_deed(reader):
    """Read a deed."""
    place = reader.following().place
    word = reader.take()
    if word in BARE_DEEDS:
        return (word,)
    if word in LETTERS_DEEDS:
        return (word, reader.take_letters())
    if word in SWAP_DEEDS:
        old = reader.take_letters()
        return (word, old, read_letters_or_none(reader))
    if word == "skip":
        return (word, reader.take_number(1, GREATEST_SKIP))
    raise Fault(3, place)


def read_letters_or_none(reader):
    """Read letters, or the word that stands for no letters."""
    if reader.following().value == "none":
        reader.take()
        return ""
    return reader.take_letters()
