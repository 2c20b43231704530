"""The operations that change a session; each gives its answer as a list of whole numbers.

The branches that are handed in here exist.
"""

from linegrafts.changes import Change, dependencies, requirements
from linegrafts.content import find_content, line_texts, visible_lines
from linegrafts.differences import difference

MAX_LINES = 8
MAX_BYTES = 12
MAX_CHANGES = 12
MAX_BRANCHES = 5

OVER_LIMITS = -1
NO_BRANCH = -2
NO_CHANGE_OR_LINE = -3
DEPENDENCIES = -4
CONFLICTS = -5
NOTHING_NEW = -6
TOO_MANY = -8


class Session:
    """All changes, and for each branch the numbers of its changes, increasing."""

    def __init__(self):
        self.changes = []
        self.branches = [[]]


def record_change(session, branch, change):
    """Number a new change, add it to the branch, and give its number."""
    number = len(session.changes)
    session.changes.append(change)
    session.branches[branch].append(number)
    return number


def make_branch(session, branch):
    """Answer the call branch."""
    if len(session.branches) >= MAX_BRANCHES:
        return [TOO_MANY]
    session.branches.append(list(session.branches[branch]))
    return [len(session.branches) - 1]


def exceeds_limits(lines):
    """Tell whether there are too many lines, or too many bytes in one."""
    return len(lines) > MAX_LINES or any([len(line) > MAX_BYTES for line in lines])


def write_lines(session, branch, lines):
    """Answer the call write."""
    if exceeds_limits(lines):
        return [OVER_LIMITS]
    content = find_content(session.changes, session.branches[branch])
    if content.conflicts:
        return [CONFLICTS]
    old = line_texts(session.changes, content.order)
    if old == lines:
        return [NOTHING_NEW]
    if len(session.changes) >= MAX_CHANGES:
        return [TOO_MANY]
    return [record_change(session, branch, difference(content.order, old, lines))]


def can_be_deleted(lines, visible):
    """Tell whether there are lines, no one twice, and all of them visible."""
    if not lines or len(set(lines)) < len(lines):
        return False
    return all([line in visible for line in lines])


def delete_lines(session, branch, lines):
    """Answer the call delete."""
    visible = visible_lines(session.changes, session.branches[branch])
    if not can_be_deleted(lines, visible):
        return [NO_CHANGE_OR_LINE]
    if len(session.changes) >= MAX_CHANGES:
        return [TOO_MANY]
    return [record_change(session, branch, Change([], lines))]


def apply_change(session, branch, change):
    """Answer the call apply."""
    members = session.branches[branch]
    if change >= len(session.changes):
        return [NO_CHANGE_OR_LINE]
    if change in members:
        return [NOTHING_NEW]
    needed = dependencies(session.changes[change])
    missing = [number for number in needed if number not in members]
    if missing:
        return [DEPENDENCIES, len(missing)] + missing
    session.branches[branch] = sorted(members + [change])
    return [len(session.branches[branch])]


def merge_branch(session, branch, other_branch):
    """Answer the call merge."""
    members = session.branches[branch]
    others = session.branches[other_branch]
    added = [number for number in others if number not in members]
    session.branches[branch] = sorted(members + added)
    return [len(added)]


def revert_change(session, branch, change):
    """Answer the call revert."""
    members = session.branches[branch]
    if change not in members:
        return [NOTHING_NEW]
    depending = [number for number in members if change in dependencies(session.changes[number])]
    if depending:
        return [DEPENDENCIES, len(depending)] + depending
    session.branches[branch] = [number for number in members if number != change]
    return [len(session.branches[branch])]


def apply_with_requirements(session, branch, change):
    """Answer the call apply_with_requirements."""
    members = session.branches[branch]
    if change >= len(session.changes):
        return [NO_CHANGE_OR_LINE]
    if change in members:
        return [NOTHING_NEW]
    needed = requirements(session.changes, change)
    added = [number for number in needed if number not in members]
    session.branches[branch] = sorted(members + added)
    return [len(added)] + added


def revert_with_dependents(session, branch, change):
    """Answer the call revert_with_dependents."""
    members = session.branches[branch]
    if change not in members:
        return [NOTHING_NEW]
    removed = [number for number in members if change in requirements(session.changes, number)]
    session.branches[branch] = [number for number in members if number not in removed]
    return [len(removed)] + removed
