"""A session with changes and branches, from its calls to their answers."""

from linegrafts.calls import APPLY, BRANCH, DELETE, MERGE, REVERT, WRITE
from linegrafts.calls import encoded_lines, encoded_pairs, named_branches, read_calls
from linegrafts.operations import NO_BRANCH, Session, apply_change, delete_lines, make_branch
from linegrafts.operations import merge_branch, revert_change, show_text, write_lines


def answer_call(session, call):
    """Give the answer to one call, and change the session as it asks."""
    plain = call.plain
    # No operation looks at anything else before its branches.
    if any([branch >= len(session.branches) for branch in named_branches(call)]):
        return [NO_BRANCH]
    if call.operation == BRANCH:
        return make_branch(session, plain[0])
    if call.operation == WRITE:
        return write_lines(session, plain[0], encoded_lines(plain[1], call.row))
    if call.operation == DELETE:
        return delete_lines(session, plain[0], encoded_pairs(call.row))
    if call.operation == APPLY:
        return apply_change(session, plain[0], plain[1])
    if call.operation == MERGE:
        return merge_branch(session, plain[0], plain[1])
    if call.operation == REVERT:
        return revert_change(session, plain[0], plain[1])
    # What is left is show.
    return show_text(session, plain[0])


def answers(calls):
    """Answer the calls of a new session: for each how many numbers, then these."""
    session = Session()
    given = []
    for call in read_calls(calls):
        answer = answer_call(session, call)
        given.append(len(answer))
        given.extend(answer)
    return given
