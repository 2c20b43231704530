"""The change from an old text to a new one."""

from linegrafts.changes import Change, Hunk


def kept_counts(old, new):
    """Give at [i][j] how many lines can be kept of old from i and new from j on."""
    counts = [[0] * (len(new) + 1) for place in range(len(old) + 1)]
    for i in range(len(old) - 1, -1, -1):
        for j in range(len(new) - 1, -1, -1):
            if old[i] == new[j]:
                counts[i][j] = counts[i + 1][j + 1] + 1
            else:
                counts[i][j] = max(counts[i + 1][j], counts[i][j + 1])
    return counts


def make_hunks(positions, gaps):
    """Make a hunk of each gap that has lines; gap i lies ahead of old line i."""
    # The start and the end close the row, so that each gap has two neighbours.
    bounds = [(-1, 0)] + positions + [(-2, 0)]
    hunks = []
    for place in range(len(gaps)):
        if gaps[place]:
            hunks.append(Hunk(bounds[place], bounds[place + 1], gaps[place]))
    return hunks


def difference(positions, old, new):
    """Make the change to the new text; the old text's lines have these positions."""
    counts = kept_counts(old, new)
    gaps = [[] for place in range(len(old) + 1)]
    deleted = []
    i = 0
    j = 0
    while i < len(old) or j < len(new):
        if i < len(old) and j < len(new) and old[i] == new[j]:
            i += 1
            j += 1
        elif j == len(new) or (i < len(old) and counts[i + 1][j] >= counts[i][j + 1]):
            deleted.append(positions[i])
            i += 1
        else:
            gaps[i].append(new[j])
            j += 1
    return Change(make_hunks(positions, gaps), deleted)
