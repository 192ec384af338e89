"""The least patch of one text to another: a list of marks, each a tuple of what is done and the line."""

from linepatches.letters import bytes_of

KEPT = 0
TAKEN_OUT = 1
PUT_IN = 2


def least_patch(first, second):
    """Give the marks of the least patch of the first lines to the second ones."""
    common = common_counts(first, second)
    marks = []
    i = 0
    j = 0
    while i < len(first) and j < len(second):
        if first[i] == second[j]:
            marks.append((KEPT, first[i]))
            i += 1
            j += 1
        elif common[i + 1][j] >= common[i][j + 1]:
            marks.append((TAKEN_OUT, first[i]))
            i += 1
        else:
            marks.append((PUT_IN, second[j]))
            j += 1
    marks.extend([(TAKEN_OUT, line) for line in first[i:]])
    marks.extend([(PUT_IN, line) for line in second[j:]])
    return marks


def common_counts(first, second):
    """Give rows of counts: in row i at j, how many lines first from i and second from j on have in common."""
    counts = [[0] * (len(second) + 1)]
    for line in reversed(first):
        counts.append(counts_with(line, second, counts[-1]))
    counts.reverse()
    return counts


def counts_with(line, second, without):
    """Give the row of counts with one more line in front of the first text."""
    counts = [0] * (len(second) + 1)
    for j in range(len(second) - 1, -1, -1):
        if line == second[j]:
            counts[j] = without[j + 1] + 1
        else:
            counts[j] = max(without[j], counts[j + 1])
    return counts


def cost_of(marks):
    """Give how many lines a patch takes out and puts in."""
    return len([mark for mark, line in marks if mark != KEPT])


def told_patch(marks):
    """Give the numbers by which a patch is told."""
    cost = cost_of(marks)
    told = [cost, len(marks), len(marks) - cost]
    for mark, line in marks:
        told.append(mark)
        if mark == PUT_IN:
            told.append(len(line))
            told.extend(bytes_of(line))
    return told
