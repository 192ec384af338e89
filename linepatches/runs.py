"""Running a script over a text."""

from linepatches.errors import TooMuch
from linepatches.texts import MOST_LETTERS

MOST_RESULT_LINES = 60


class Spot:
    """A line of the text while the commands are gone through on it, and what is to come of it."""

    def __init__(self, line, number, is_last, held):
        self.line = line
        self.number = number
        self.is_last = is_last
        self.held = held
        self.ahead = []
        self.behind = []
        self.deleted = False
        self.ended = False
        self.left_out = 0


def result_of(commands, lines):
    """Give the lines that come when the commands run over a text's lines."""
    result = []
    held = ""
    for number, line in enumerate(lines, start=1):
        spot = Spot(line, number, number == len(lines), held)
        go_through(commands, spot)
        held = spot.held
        result.extend(lines_from(spot))
    if len(result) > MOST_RESULT_LINES:
        raise TooMuch()
    return result


def go_through(commands, spot):
    """Go through the commands on one line."""
    for command in commands:
        if spot.ended:
            return
        if spot.left_out > 0:
            spot.left_out -= 1
        elif holds(command.address, spot):
            do = DEEDS[command.deed[0]]
            do(spot, command.deed)


def lines_from(spot):
    """Give the lines that come of one line."""
    itself = [] if spot.deleted else [spot.line]
    return spot.ahead + itself + spot.behind


def holds(address, spot):
    """Tell whether an address holds just now."""
    word = address[0]
    if word == "not":
        return not holds(address[1], spot)
    if word == "line":
        return spot.number == address[1]
    if word == "from":
        return address[1] <= spot.number <= address[2]
    if word == "last":
        return spot.is_last
    if word == "has":
        return address[1] in spot.line
    if word == "is":
        return address[1] == spot.line
    return True


def set_swapped(spot, line):
    """Let the line be what a swap made of it."""
    if len(line) > MOST_LETTERS:
        raise TooMuch()
    spot.line = line


def do_delete(spot, deed):
    """Let the line itself not come."""
    spot.deleted = True
    spot.ended = True


def do_stop(spot, deed):
    """Do no more command on the line."""
    spot.ended = True


def do_before(spot, deed):
    """Put a line ahead."""
    spot.ahead.append(deed[1])


def do_after(spot, deed):
    """Put a line behind."""
    spot.behind.append(deed[1])


def do_bring(spot, deed):
    """Put the held line behind."""
    spot.behind.append(spot.held)


def do_change(spot, deed):
    """Let the line be another."""
    spot.line = deed[1]


def do_swap(spot, deed):
    """Put letters in the place of all that stand there."""
    set_swapped(spot, spot.line.replace(deed[1], deed[2]))


def do_first(spot, deed):
    """Put letters in the place of the first that stand there."""
    set_swapped(spot, spot.line.replace(deed[1], deed[2], 1))


def do_keep(spot, deed):
    """Hold the line."""
    spot.held = spot.line


def do_trade(spot, deed):
    """Let the line and the held line change places."""
    line = spot.line
    spot.line = spot.held
    spot.held = line


def do_skip(spot, deed):
    """Leave out the next commands."""
    spot.left_out = deed[1]


DEEDS = {
    "delete": do_delete,
    "stop": do_stop,
    "before": do_before,
    "after": do_after,
    "bring": do_bring,
    "change": do_change,
    "swap": do_swap,
    "first": do_first,
    "keep": do_keep,
    "trade": do_trade,
    "skip": do_skip,
}
