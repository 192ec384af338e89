"""The calls on one object, one behind another."""

from linepatches.errors import Fault, NoScriptHeld, Refusal
from linepatches.marks import least_patch, told_patch
from linepatches.numbered import numbered_script, told_script
from linepatches.runs import result_of
from linepatches.scripts import commands_of
from linepatches.texts import lines_of


class Holder:
    """The object that the calls are made on: the commands of the script held, or None."""

    def __init__(self):
        self.commands = None


def call_load(holder, rows):
    """Hold a script if it is right, else tell its fault."""
    try:
        commands = commands_of(rows[0])
    except Fault as fault:
        return [0, fault.code, fault.place]
    holder.commands = commands
    return [1, len(commands)]


def call_diff(holder, rows):
    """Tell the least patch between two texts."""
    return told_patch(least_patch(lines_of(rows[0]), lines_of(rows[1])))


def call_patch(holder, rows):
    """Tell the least patch of a text to what comes of it by the script held."""
    if holder.commands is None:
        raise NoScriptHeld()
    lines = lines_of(rows[0])
    return told_patch(least_patch(lines, result_of(holder.commands, lines)))


def call_script(holder, rows):
    """Tell the script for the least patch between two texts."""
    return told_script(numbered_script(least_patch(lines_of(rows[0]), lines_of(rows[1]))))


# By a call's number: how many rows it has, and what answers it.
CALLS = {
    0: (1, call_load),
    1: (2, call_diff),
    2: (1, call_patch),
    3: (2, call_script),
}


def answers(calls):
    """Give, for each of the calls in order, how many numbers it answers, and these."""
    holder = Holder()
    told = []
    at = 0
    while at < len(calls):
        number = calls[at]
        rows = rows_from(calls, at + 1, CALLS[number][0])
        at += 1 + sum([1 + len(row) for row in rows])
        answer = answer_of(holder, number, rows)
        told.append(len(answer))
        told.extend(answer)
    return told


def rows_from(calls, at, count):
    """Give copies of so many rows, the first of which has its length at a place."""
    rows = []
    while len(rows) < count:
        end = at + 1 + calls[at]
        rows.append(calls[at + 1:end])
        at = end
    return rows


def answer_of(holder, number, rows):
    """Give the numbers that a call answers, a refusal's alone if it is refused."""
    call = CALLS[number][1]
    try:
        return call(holder, rows)
    except Refusal as refusal:
        return [refusal.number]
