"""What a change consists of, and the changes that it depends on.

A position is a tuple: the change and the number of a line, (-1, 0) for the
start of the text, (-2, 0) for its end.
"""


class Hunk:
    """Lines that are inserted between two positions."""

    def __init__(self, before, after, inserted):
        self.before = before
        self.after = after
        self.inserted = inserted


class Change:
    """Hunks, and the lines that are deleted."""

    def __init__(self, hunks, deleted):
        self.hunks = hunks
        self.deleted = deleted


def inserted_lines(change):
    """Give the lines of all hunks; the place of a line is its number."""
    lines = []
    for hunk in change.hunks:
        lines.extend(hunk.inserted)
    return lines


def chains(number, change):
    """Give for each hunk the position before it, its lines, the position after it."""
    found = []
    first = 0
    for hunk in change.hunks:
        behind = first + len(hunk.inserted)
        lines = [(number, place) for place in range(first, behind)]
        found.append([hunk.before] + lines + [hunk.after])
        first = behind
    return found


def dependencies(change):
    """Give the changes that inserted the lines it refers to, in increasing order."""
    positions = list(change.deleted)
    for hunk in change.hunks:
        positions.append(hunk.before)
        positions.append(hunk.after)
    # The start and the end, alone below 0, belong to no change.
    return sorted(set([position[0] for position in positions if position[0] >= 0]))


def requirements(changes, number):
    """Give the change and all that it needs, in however many steps, in increasing order."""
    needed = {number: True}
    # A change depends on earlier ones alone: on the way down, each that is needed
    # is known to be so before its turn comes.
    for earlier in range(number, -1, -1):
        if earlier in needed:
            for dependency in dependencies(changes[earlier]):
                needed[dependency] = True
    return sorted(needed.keys())
