"""Calls put together from their parts, and the answers to a list of them."""

from linegrafts.branches import answers

# The start and the end of a text, as positions.
START = (-1, 0)
END = (-2, 0)


def as_bytes(text):
    return [ord(sign) for sign in text] if isinstance(text, str) else list(text)


def encoded(texts):
    numbers = []
    for text in texts:
        numbers += [len(text)] + as_bytes(text)
    return numbers


def branch(number):
    return [0, number]


def write(number, *texts):
    row = encoded(texts)
    return [1, number, len(texts), len(row)] + row


def delete(number, *positions):
    row = numbers_of(positions)
    return [2, number, len(row)] + row


def apply(number, wanted):
    return [3, number, wanted]


def merge(number, other):
    return [4, number, other]


def revert(number, unwanted):
    return [5, number, unwanted]


def show(number):
    return [6, number]


def lines(number):
    return [7, number]


def change(number):
    return [8, number]


def requirements(number):
    return [9, number]


def apply_with_requirements(number, wanted):
    return [10, number, wanted]


def revert_with_dependents(number, unwanted):
    return [11, number, unwanted]


def explain(number, inserting, line):
    return [12, number, inserting, line]


def blame(number):
    return [13, number]


def shown(*texts):
    return [len(texts)] + encoded(texts)


def numbers_of(positions):
    return [part for position in positions for part in position]


def listed(positions, *pairs):
    """What lines answers for these positions and pairs in conflict."""
    answer = [len(positions)] + numbers_of(positions) + [len(pairs)]
    return answer + [part for pair in pairs for part in numbers_of(pair)]


def described(hunks, deleted, dependencies):
    """What change answers; a hunk is the position before it, the one after it, and its lines."""
    answer = [len(hunks)]
    for before, after, texts in hunks:
        answer += numbers_of([before, after]) + [len(texts)] + encoded(texts)
    answer += [len(deleted)] + numbers_of(deleted)
    return answer + [len(dependencies)] + dependencies


def ask(*calls):
    """Hand the calls in as one list; give the answers, a list for each call."""
    numbers = answers([number for call in calls for number in call])
    found = []
    while numbers:
        count = numbers[0]
        if count < 1 or len(numbers) < 1 + count:
            raise AssertionError("the counts do not fit what is answered")
        found.append(numbers[1:1 + count])
        numbers = numbers[1 + count:]
    if len(found) != len(calls):
        raise AssertionError("not one answer for each call")
    return found


def last(*calls):
    """Give the answer to the last of the calls."""
    return ask(*calls)[-1]


def members(number, *calls):
    """Give the changes that the branch has after the calls: revert answers -6 for all others."""
    # From the highest down, so that none that depends on a change is there any more.
    reverts = [revert(number, unwanted) for unwanted in reversed(range(12))]
    given = ask(*calls, *reverts)[len(calls):]
    return [unwanted for unwanted in range(12) if given[11 - unwanted] != [-6]]


def many_changes(count):
    """Calls that make so many changes on branch 0, the text being a, none, a, none .."""
    return [write(0, "a") if number % 2 == 0 else write(0) for number in range(count)]


# Branch 0 has change 0 (a) and change 1 (b), which are in conflict; branch 1 has change 1.
CONFLICT = [branch(0), write(0, "a"), write(1, "b"), merge(0, 1)]

# Branch 1 is empty. Branch 0 has 0 (a), 1 (b behind a), 2 (c behind b), 3 (x between a and b).
CHAIN = [branch(0), write(0, "a"), write(0, "a", "b"), write(0, "a", "b", "c"),
         write(0, "a", "x", "b", "c")]
