"""The changes of a patch: its rows of marks without kept lines, and the kept lines around them."""

from linepatches.marks import KEPT, PUT_IN, TAKEN_OUT

MOST_AROUND = 2


class Change:
    """A change: its place, the kept lines before it, those taken out, put in, and the kept ones behind it."""

    def __init__(self, place, before):
        self.place = place
        self.before = before
        self.taken_out = []
        self.put_in = []
        self.behind = []


def changes_of(marks):
    """Give the changes of a patch, in order."""
    changes = []
    kept = []
    passed = 0
    for mark, line in marks:
        if mark == KEPT:
            keep_behind(changes, kept, line)
            kept.append(line)
        else:
            if changes == [] or kept != []:
                changes.append(Change(passed, kept[-MOST_AROUND:]))
                kept = []
            add_to(changes[-1], mark, line)
        if mark != PUT_IN:
            passed += 1
    return changes


def keep_behind(changes, kept, line):
    """Let the last change, if there is one, have a kept line behind it, unless enough are kept there already."""
    if changes != [] and len(kept) < MOST_AROUND:
        changes[-1].behind.append(line)


def add_to(change, mark, line):
    """Let a line be taken out or put in by a change."""
    if mark == TAKEN_OUT:
        change.taken_out.append(line)
    else:
        change.put_in.append(line)


def told_changes(changes):
    """Give the numbers by which changes are told."""
    told = [len(changes)]
    for change in changes:
        told.append(change.place)
        told.extend([len(lines) for lines in (change.before, change.taken_out, change.put_in, change.behind)])
    return told
