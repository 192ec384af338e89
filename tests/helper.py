"""What the tests share: calls in numbers, answers taken apart, patches put to texts, and plain searches."""

from itertools import combinations, groupby

from linepatches.patches import answers

OWN_WORDS = (
    "if all line from to last has is not delete before after change swap first keep bring trade skip stop none"
).split()

NOT_TEXTS = {
    "an upper-case letter": "aB\n",
    "a digit": "a1\n",
    "a blank": "a b\n",
    "a tab": "\t\n",
    "a carriage return": "a\r\n",
    "the byte before a": [96, 10],
    "the byte behind z": [123, 10],
    "the byte 0": [0],
    "the byte 255": [255, 10],
    "a remark": "#\n",
    "17 letters": "a" * 17 + "\n",
    "17 letters in the second line": "a\n" + "b" * 17 + "\n",
    "25 lines": "a\n" * 25,
    "25 lines without letters": "\n" * 25,
    "no byte 10": "a",
    "a last line without its byte 10": "a\nb",
    "a 25th line without its byte 10": "a\n" * 24 + "b",
    "8192 bytes": "a" * 8192,
    "8192 lines": "\n" * 8192,
}


def numbers(said):
    """The bytes of a string, or a list of bytes as it is."""
    return list(said.encode("ascii")) if isinstance(said, str) else list(said)


def call(number, *rows):
    """A call in numbers: its number, and its rows with their lengths."""
    told = [number]
    for row in rows:
        told += [len(numbers(row))] + numbers(row)
    return told


def load(script):
    return call(0, script)


def diff(first, second):
    return call(1, first, second)


def patch(text):
    return call(2, text)


def script(first, second):
    return call(3, first, second)


def undo(text):
    return call(4, text)


def drift(first, second, other):
    return call(5, first, second, other)


def both(first, second, third):
    return call(6, first, second, third)


def hunks(first, second):
    return call(7, first, second)


def ask(*calls):
    """The answers to the calls, one list each."""
    told = answers([number for one in calls for number in one])
    taken = []
    at = 0
    while at < len(told):
        taken.append(told[at + 1:at + 1 + told[at]])
        at += 1 + told[at]
    assert at == len(told), "the answers' counts don't fit"
    return taken


def ask_one(*calls):
    """The answer to the last of the calls."""
    return ask(*calls)[-1]


def text(*lines):
    """A text of lines, told."""
    return "".join(line + "\n" for line in lines)


def marks_told(told):
    """Cost, kept lines and marks of a patch told; each mark a pair, with the line put in or None."""
    marks = []
    at = 3
    while at < len(told):
        mark, line = told[at], None
        at += 1
        if mark == 2:
            line = bytes(told[at + 1:at + 1 + told[at]]).decode("ascii")
            at += 1 + told[at]
        marks.append((mark, line))
    assert len(marks) == told[1], "as many marks as told"
    return told[0], told[2], marks


def commands_told(told):
    """The commands of a script told, or the refusal's number."""
    if told[0] < 0:
        assert len(told) == 1, "a refusal is its number alone"
        return told[0]
    commands = bytes(told[2:]).decode("ascii").split("\n")
    assert commands.pop() == "", "each command ends with the byte 10"
    assert told[:2] == [len(commands), len(told) - 2], "as many commands and bytes as told"
    return commands


def patched(lines, told):
    """The lines that a patch told makes of other lines."""
    made = []
    left = list(lines)
    for mark, line in marks_told(told)[2]:
        if mark == 2:
            made.append(line)
        else:
            gone_through = left.pop(0)
            if mark == 0:
                made.append(gone_through)
    assert left == [], "every line of the first text has a mark"
    return made


def outcome(source, *lines):
    """The lines that come when a script runs over lines, or the refusal's number."""
    loaded, told = ask(load(source), patch(text(*lines)))
    assert loaded[0] == 1, ("the script is not right", source, loaded)
    return patched(lines, told) if told[0] >= 0 else told[0]


def rows_of(lines):
    """All texts that lie in these lines, in their order."""
    return {row for size in range(len(lines) + 1) for row in combinations(lines, size)}


def in_common(first, second):
    """How many lines two texts have in common, by looking at all of their rows."""
    return max(len(row) for row in rows_of(first) & rows_of(second))


def plain_marks(first, second):
    """The least patch by the document's words alone: pairs of a mark and its line."""
    marks = []
    while first and second:
        if first[0] == second[0]:
            marks.append((0, first[0]))
            first, second = first[1:], second[1:]
        elif in_common(first[1:], second) >= in_common(first, second[1:]):
            marks.append((1, first[0]))
            first = first[1:]
        else:
            marks.append((2, second[0]))
            second = second[1:]
    return marks + [(1, line) for line in first] + [(2, line) for line in second]


def plain_changes(first, second):
    """The changes of the least patch: each its place, the lines before it, taken out, put in, and behind it."""
    marks = plain_marks(first, second)
    grouped = [list(group) for is_kept, group in groupby(marks, key=lambda pair: pair[0] == 0)]
    changes = []
    for number, group in enumerate(grouped):
        if group[0][0] != 0:
            ahead = [mark for earlier in grouped[:number] for mark, line in earlier]
            before = [line for mark, line in grouped[number - 1][-2:]] if number > 0 else []
            behind = [line for later in grouped[number + 1:number + 2] for mark, line in later[:2]]
            out, into = [[line for mark, line in group if mark == asked] for asked in (1, 2)]
            changes.append((len(ahead) - ahead.count(2), before, out, into, behind))
    return changes


def plain_patch(first, second):
    """The least patch by the document's words alone, as it is told."""
    marks = plain_marks(first, second)
    kept = sum(mark == 0 for mark, line in marks)
    told = [len(marks) - kept, len(marks), kept]
    for mark, line in marks:
        told += [mark] + ([len(line)] + numbers(line) if mark == 2 else [])
    return told
