"""What can go wrong: the fault of a script, a change that can't be put, and the refusals of calls."""


class Fault(Exception):
    """A script that is not right: the fault's code and its place."""

    def __init__(self, code, place):
        self.code = code
        self.place = place


class ChangeNotPut(Exception):
    """A change that stands nowhere in a text where it may be put: its number."""

    def __init__(self, number):
        self.number = number


class Refusal(Exception):
    """A call that is refused: the number that it answers."""

    def __init__(self, number):
        self.number = number


class NoScriptHeld(Refusal):
    """A call asks for the script, and there is none."""

    def __init__(self):
        Refusal.__init__(self, -1)


class NotAText(Refusal):
    """Bytes that are handed in as a text tell none."""

    def __init__(self):
        Refusal.__init__(self, -4)


class NoScriptForPatch(Refusal):
    """A patch for which there is no script by numbers."""

    def __init__(self):
        Refusal.__init__(self, -6)


class TooMuch(Refusal):
    """A run by which a line gets too long, or too many lines come."""

    def __init__(self):
        Refusal.__init__(self, -7)
