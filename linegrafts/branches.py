"""A session with changes and branches, from its calls to their answers."""

from linegrafts.calls import APPLY, APPLY_WITH_REQUIREMENTS, BRANCH, CHANGE, DELETE, EXPLAIN, LINES
from linegrafts.calls import MERGE, REQUIREMENTS, REVERT, REVERT_WITH_DEPENDENTS, SHOW, WRITE
from linegrafts.calls import named_branches, read_calls, read_lines, read_pairs
from linegrafts.operations import NO_BRANCH, Session, apply_change, apply_with_requirements
from linegrafts.operations import delete_lines, make_branch, merge_branch, revert_change
from linegrafts.operations import revert_with_dependents, write_lines
from linegrafts.reports import blame_text, describe_change, explain_line, list_lines
from linegrafts.reports import list_requirements, show_text


def answer_call(session, call):
    """Give the answer to one call, and change the session as it asks."""
    plain = call.plain
    # No operation looks at anything else before its branches.
    if any([branch >= len(session.branches) for branch in named_branches(call)]):
        return [NO_BRANCH]
    if call.operation == BRANCH:
        return make_branch(session, plain[0])
    if call.operation == WRITE:
        return write_lines(session, plain[0], read_lines(plain[1], call.row))
    if call.operation == DELETE:
        return delete_lines(session, plain[0], read_pairs(call.row))
    if call.operation == APPLY:
        return apply_change(session, plain[0], plain[1])
    if call.operation == MERGE:
        return merge_branch(session, plain[0], plain[1])
    if call.operation == REVERT:
        return revert_change(session, plain[0], plain[1])
    if call.operation == SHOW:
        return show_text(session, plain[0])
    if call.operation == LINES:
        return list_lines(session, plain[0])
    if call.operation == CHANGE:
        return describe_change(session, plain[0])
    if call.operation == REQUIREMENTS:
        return list_requirements(session, plain[0])
    if call.operation == APPLY_WITH_REQUIREMENTS:
        return apply_with_requirements(session, plain[0], plain[1])
    if call.operation == REVERT_WITH_DEPENDENTS:
        return revert_with_dependents(session, plain[0], plain[1])
    if call.operation == EXPLAIN:
        return explain_line(session, plain[0], plain[1], plain[2])
    # What is left is blame.
    return blame_text(session, plain[0])


def answers(calls):
    """Answer the calls of a new session: for each how many numbers, then these."""
    session = Session()
    given = []
    for call in read_calls(calls):
        answer = answer_call(session, call)
        given.append(len(answer))
        given.extend(answer)
    return given
