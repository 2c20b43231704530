"""The visible lines of a branch, their order and their conflicts.

Throughout, `changes` are all changes of the session, and `members` the numbers
of those that the branch has, in increasing order.
"""

from linegrafts.changes import chains, inserted_lines


class Content:
    """The visible lines in order, and the pairs of them that are in conflict."""

    def __init__(self, order, conflicts):
        self.order = order
        self.conflicts = conflicts


def visible_lines(changes, members):
    """Give the lines that are inserted and not deleted, by change and number."""
    deleted = {}
    for member in members:
        for line in changes[member].deleted:
            deleted[line] = True
    visible = []
    for member in members:
        count = len(inserted_lines(changes[member]))
        lines = [(member, place) for place in range(count)]
        visible.extend([line for line in lines if line not in deleted])
    return visible


def next_positions(changes, members):
    """Give for each position those that are next to it in some hunk."""
    following = {}
    for member in members:
        for chain in chains(member, changes[member]):
            for place in range(len(chain) - 1):
                following.setdefault(chain[place], []).append(chain[place + 1])
    return following


def preceded_positions(line, following):
    """Give the positions that the line precedes, each as a key with True."""
    reached = {}
    waiting = [line]
    while waiting:
        here = waiting.pop()
        for position in following.get(here, []):
            if position not in reached:
                reached[position] = True
                waiting.append(position)
    return reached


def is_preceded(line, remaining, preceded):
    """Tell whether one of the remaining lines precedes the line."""
    return any([line in preceded[other] for other in remaining])


def order_lines(visible, preceded):
    """Give the visible lines in order."""
    remaining = list(visible)
    order = []
    while remaining:
        # There always is a free one: a hunk is put between positions that are
        # in this order already, so no line ever comes to precede itself.
        place = 0
        while is_preceded(remaining[place], remaining, preceded):
            place += 1
        order.append(remaining.pop(place))
    return order


def find_conflicts(order, preceded):
    """Give the pairs in conflict, by their first and then by their second lines."""
    conflicts = []
    for place in range(len(order)):
        first = order[place]
        for second in order[place + 1:]:
            if second not in preceded[first] and first not in preceded[second]:
                conflicts.append((first, second))
    return conflicts


def find_content(changes, members):
    """Give the content of a branch."""
    following = next_positions(changes, members)
    visible = visible_lines(changes, members)
    preceded = {}
    for line in visible:
        preceded[line] = preceded_positions(line, following)
    order = order_lines(visible, preceded)
    return Content(order, find_conflicts(order, preceded))


def line_texts(changes, lines):
    """Give the bytes of each of these lines."""
    return [inserted_lines(changes[line[0]])[line[1]] for line in lines]
