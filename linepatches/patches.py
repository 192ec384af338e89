"""The calls on one object, one behind another."""

from linepatches.changes import changes_of, told_changes
from linepatches.drift import put_to
from linepatches.errors import ChangeNotPut, Fault, NoScriptHeld, Refusal
from linepatches.marks import cost_of, least_patch, one_behind_other, told_patch, turned_round
from linepatches.numbered import numbered_script, told_script
from linepatches.runs import result_of
from linepatches.scripts import commands_of
from linepatches.texts import lines_of, told_text


class Holder:
    """The object that the calls are made on: the commands of the script held, or None."""

    def __init__(self):
        self.commands = None


def call_load(holder, rows):
    """Hold a script if it is right, else tell its fault."""
    try:
        commands = commands_of(rows[0])
    except Fault as fault:
        return [0, fault.code, fault.place]
    holder.commands = commands
    return [1, len(commands)]


def call_diff(holder, rows):
    """Tell the least patch between two texts."""
    return told_patch(patch_between(rows))


def call_patch(holder, rows):
    """Tell the least patch of a text to what comes of it by the script held."""
    return told_patch(patch_by_run(holder, rows[0]))


def call_script(holder, rows):
    """Tell the script for the least patch between two texts."""
    return told_script(numbered_script(patch_between(rows)))


def call_undo(holder, rows):
    """Tell the script that brings back a text from what comes of it by the script held."""
    return told_script(numbered_script(turned_round(patch_by_run(holder, rows[0]))))


def call_drift(holder, rows):
    """Tell what comes when the least patch between two texts is put to a third one."""
    texts = [lines_of(row) for row in rows]
    changes = changes_of(least_patch(texts[0], texts[1]))
    try:
        made = put_to(changes, texts[2])
    except ChangeNotPut as not_put:
        return [0, not_put.number]
    return [1] + told_text(made)


def call_both(holder, rows):
    """Tell what two least patches cost one behind the other, alone, and what the one past both costs."""
    texts = [lines_of(row) for row in rows]
    first = least_patch(texts[0], texts[1])
    second = least_patch(texts[1], texts[2])
    past_both = least_patch(texts[0], texts[2])
    return [cost_of(marks) for marks in (one_behind_other(first, second), first, second, past_both)]


def call_hunks(holder, rows):
    """Tell the changes of the least patch between two texts."""
    return told_changes(changes_of(patch_between(rows)))


def patch_between(rows):
    """Give the least patch of a first text to a second one."""
    return least_patch(lines_of(rows[0]), lines_of(rows[1]))


def patch_by_run(holder, row):
    """Give the least patch of a text to what comes of it by the script held."""
    if holder.commands is None:
        raise NoScriptHeld()
    lines = lines_of(row)
    return least_patch(lines, result_of(holder.commands, lines))


# By a call's number: how many rows it has, and what answers it.
CALLS = {
    0: (1, call_load),
    1: (2, call_diff),
    2: (1, call_patch),
    3: (2, call_script),
    4: (1, call_undo),
    5: (3, call_drift),
    6: (3, call_both),
    7: (2, call_hunks),
}


def answers(calls):
    """Give, for each of the calls in order, how many numbers it answers, and these."""
    holder = Holder()
    told = []
    at = 0
    while at < len(calls):
        number = calls[at]
        rows = rows_from(calls, at + 1, CALLS[number][0])
        at += 1 + sum([1 + len(row) for row in rows])
        answer = answer_of(holder, number, rows)
        told.append(len(answer))
        told.extend(answer)
    return told


def rows_from(calls, at, count):
    """Give copies of so many rows, the first of which has its length at a place."""
    rows = []
    while len(rows) < count:
        end = at + 1 + calls[at]
        rows.append(calls[at + 1:end])
        at = end
    return rows


def answer_of(holder, number, rows):
    """Give the numbers that a call answers, a refusal's alone if it is refused."""
    call = CALLS[number][1]
    try:
        return call(holder, rows)
    except Refusal as refusal:
        return [refusal.number]
