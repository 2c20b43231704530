"""The operations that only tell of a session; each gives its answer as a list of whole numbers.

The branches that are handed in here exist.
"""

from linegrafts.changes import dependencies, inserted_lines, requirements
from linegrafts.content import find_content, line_texts
from linegrafts.operations import CONFLICTS, NO_CHANGE_OR_LINE

LINE_DELETED = 0
LINE_VISIBLE = 1
LINE_ABSENT = 2


def encode_lines(lines):
    """Give for each line its number of bytes, then its bytes."""
    numbers = []
    for line in lines:
        numbers.append(len(line))
        numbers.extend(line)
    return numbers


def encode_positions(positions):
    """Give the two numbers of each position."""
    numbers = []
    for position in positions:
        numbers.extend(position)
    return numbers


def show_text(session, branch):
    """Answer the call show."""
    content = find_content(session.changes, session.branches[branch])
    if content.conflicts:
        return [CONFLICTS, len(content.conflicts)]
    return [len(content.order)] + encode_lines(line_texts(session.changes, content.order))


def list_lines(session, branch):
    """Answer the call lines."""
    content = find_content(session.changes, session.branches[branch])
    told = [len(content.order)] + encode_positions(content.order)
    told.append(len(content.conflicts))
    for pair in content.conflicts:
        told.extend(encode_positions(pair))
    return told


def describe_change(session, number):
    """Answer the call change."""
    if number >= len(session.changes):
        return [NO_CHANGE_OR_LINE]
    change = session.changes[number]
    told = [len(change.hunks)]
    for hunk in change.hunks:
        told.extend(encode_positions([hunk.before, hunk.after]))
        told.append(len(hunk.inserted))
        told.extend(encode_lines(hunk.inserted))
    told.append(len(change.deleted))
    told.extend(encode_positions(change.deleted))
    needed = dependencies(change)
    return told + [len(needed)] + needed


def list_requirements(session, number):
    """Answer the call requirements."""
    if number >= len(session.changes):
        return [NO_CHANGE_OR_LINE]
    needed = requirements(session.changes, number)
    return [len(needed)] + needed


def explain_line(session, branch, change, number):
    """Answer the call explain."""
    changes = session.changes
    if change >= len(changes) or number >= len(inserted_lines(changes[change])):
        return [NO_CHANGE_OR_LINE]
    members = session.branches[branch]
    if change not in members:
        return [LINE_ABSENT]
    deleting = [member for member in members if (change, number) in changes[member].deleted]
    if not deleting:
        return [LINE_VISIBLE]
    return [LINE_DELETED, len(deleting)] + deleting


def blame_text(session, branch):
    """Answer the call blame."""
    content = find_content(session.changes, session.branches[branch])
    if content.conflicts:
        return [CONFLICTS, len(content.conflicts)]
    return [len(content.order)] + [line[0] for line in content.order]
