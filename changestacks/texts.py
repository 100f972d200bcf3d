"""Texts, as tuples of lines: the hunks that lead from an old one to a new one."""


def counts_with(line, new, behind):
    counts = [0] * (len(new) + 1)
    count = 0
    for j in range(len(new) - 1, -1, -1):
        if line == new[j]:
            count = behind[j + 1] + 1
        elif behind[j] > count:
            count = behind[j]
        counts[j] = count
    return counts


# Row i, column j: how many lines of the ends old[i:] and new[j:] can be kept.
def kept_counts(old, new):
    rows = [[0] * (len(new) + 1)]
    for line in reversed(old):
        rows.append(counts_with(line, new, rows[-1]))
    rows.reverse()
    return rows


def begins_alike(old, new, i, j):
    return i < len(old) and j < len(new) and old[i] == new[j]


# A hunk is a tuple: its place, its old lines, its new lines.
def hunks_between(old, new):
    counts = kept_counts(old, new)
    hunks = []
    i = 0
    j = 0
    while i < len(old) or j < len(new):
        if begins_alike(old, new, i, j):
            i += 1
            j += 1
            continue
        place = i
        first_new = j
        while (i < len(old) or j < len(new)) and not begins_alike(old, new, i, j):
            # Where nothing is left of the new text the counts are all 0, so
            # the rest of the old one goes by the same comparison.
            if i < len(old) and counts[i + 1][j] == counts[i][j]:
                i += 1
            else:
                j += 1
        hunks.append((place, old[place:i], new[first_new:j]))
    return hunks


# Text from begin to end, with the hunks done that lie in this stretch.
def stretch_with(text, begin, end, hunks):
    done = ()
    for place, gone, come in hunks:
        done = done + text[begin:place] + come
        begin = place + len(gone)
    return done + text[begin:end]
