"""Patches, each a list of marks: tuples of what is done and the line."""

from linepatches.letters import bytes_of

KEPT = 0
TAKEN_OUT = 1
PUT_IN = 2


def least_patch(first, second):
    """Give the marks of the least patch of the first lines to the second ones."""
    common = common_counts(first, second)
    marks = []
    i = 0
    j = 0
    while i < len(first) and j < len(second):
        if first[i] == second[j]:
            marks.append((KEPT, first[i]))
            i += 1
            j += 1
        elif common[i + 1][j] >= common[i][j + 1]:
            marks.append((TAKEN_OUT, first[i]))
            i += 1
        else:
            marks.append((PUT_IN, second[j]))
            j += 1
    marks.extend([(TAKEN_OUT, line) for line in first[i:]])
    marks.extend([(PUT_IN, line) for line in second[j:]])
    return marks


def common_counts(first, second):
    """Give rows of counts: in row i at j, how many lines first from i and second from j on have in common."""
    counts = [[0] * (len(second) + 1)]
    for line in reversed(first):
        counts.append(counts_with(line, second, counts[-1]))
    counts.reverse()
    return counts


def counts_with(line, second, without):
    """Give the row of counts with one more line in front of the first text."""
    counts = [0] * (len(second) + 1)
    for j in range(len(second) - 1, -1, -1):
        if line == second[j]:
            counts[j] = without[j + 1] + 1
        else:
            counts[j] = max(without[j], counts[j + 1])
    return counts


def turned_round(marks):
    """Give the marks of a patch the other way round."""
    return [(other_way(mark), line) for mark, line in marks]


def other_way(mark):
    """Give what is done to a line when the patch is turned round."""
    if mark == TAKEN_OUT:
        return PUT_IN
    if mark == PUT_IN:
        return TAKEN_OUT
    return KEPT


def one_behind_other(first, second):
    """Give the marks of two patches in one, the second made for the text that the first makes."""
    marks = []
    i = 0
    j = 0
    while i < len(first) or j < len(second):
        if i < len(first) and first[i][0] == TAKEN_OUT:
            marks.append(first[i])
            i += 1
        elif j < len(second) and second[j][0] == PUT_IN:
            marks.append(second[j])
            j += 1
        else:
            # What is left of both patches now begins with the same line of the text between.
            marks.extend(marks_of_both(first[i], second[j]))
            i += 1
            j += 1
    return marks


def marks_of_both(first, second):
    """Give what becomes of a line that the first patch brings and the second one finds: a mark or none."""
    if second[0] == KEPT:
        return [first]
    if first[0] == KEPT:
        return [second]
    return []


def cost_of(marks):
    """Give how many lines a patch takes out and puts in."""
    return len([mark for mark, line in marks if mark != KEPT])


def told_patch(marks):
    """Give the numbers by which a patch is told."""
    cost = cost_of(marks)
    told = [cost, len(marks), len(marks) - cost]
    for mark, line in marks:
        told.append(mark)
        if mark == PUT_IN:
            told.append(len(line))
            told.extend(bytes_of(line))
    return told
