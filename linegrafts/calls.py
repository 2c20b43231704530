"""Reading the calls out of the list that is handed in."""

BRANCH = 0
WRITE = 1
DELETE = 2
APPLY = 3
MERGE = 4
REVERT = 5
SHOW = 6
LINES = 7
CHANGE = 8
REQUIREMENTS = 9
APPLY_WITH_REQUIREMENTS = 10
REVERT_WITH_DEPENDENTS = 11
EXPLAIN = 12

# By operation, the last being blame: how many numbers a call has behind its own,
# its row aside.
PLAIN_COUNTS = (1, 2, 1, 2, 2, 2, 1, 1, 1, 1, 2, 2, 3, 1)
# By operation: how many of these, from the front, are branches.
BRANCH_COUNTS = (1, 1, 1, 1, 2, 1, 1, 1, 0, 0, 1, 1, 1, 1)


class Call:
    """The operation, its plain numbers, and its row, which is empty if it has none."""

    def __init__(self, operation, plain, row):
        self.operation = operation
        self.plain = plain
        self.row = row


def read_calls(numbers):
    """Give the calls that stand one behind another."""
    found = []
    place = 0
    while place < len(numbers):
        operation = numbers[place]
        first = place + 1
        place = first + PLAIN_COUNTS[operation]
        plain = numbers[first:place]
        row = []
        if operation == WRITE or operation == DELETE:
            first = place + 1
            place = first + numbers[place]
            row = numbers[first:place]
        found.append(Call(operation, plain, row))
    return found


def named_branches(call):
    """Give the branches that a call names."""
    return call.plain[:BRANCH_COUNTS[call.operation]]


def read_lines(count, row):
    """Give the bytes of the lines that stand one behind another in a row."""
    lines = []
    place = 0
    while len(lines) < count:
        first = place + 1
        place = first + row[place]
        lines.append(row[first:place])
    return lines


def read_pairs(row):
    """Give the lines of which a row has the change and the number."""
    return [(row[place], row[place + 1]) for place in range(0, len(row), 2)]
