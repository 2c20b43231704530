"""Calls put together from their parts, and the answers to a list of them."""

from linegrafts.branches import answers


def as_bytes(line):
    return [ord(sign) for sign in line] if isinstance(line, str) else list(line)


def encoded(lines):
    numbers = []
    for line in lines:
        numbers += [len(line)] + as_bytes(line)
    return numbers


def branch(number):
    return [0, number]


def write(number, *lines):
    row = encoded(lines)
    return [1, number, len(lines), len(row)] + row


def delete(number, *lines):
    row = [part for line in lines for part in line]
    return [2, number, len(row)] + row


def apply(number, change):
    return [3, number, change]


def merge(number, other):
    return [4, number, other]


def revert(number, change):
    return [5, number, change]


def show(number):
    return [6, number]


def shown(*lines):
    return [len(lines)] + encoded(lines)


def ask(*calls):
    """Hand the calls in as one list; give the answers, a list for each call."""
    numbers = answers([number for call in calls for number in call])
    found = []
    while numbers:
        count = numbers[0]
        if count < 1 or len(numbers) < 1 + count:
            raise AssertionError("the counts do not fit what is answered")
        found.append(numbers[1:1 + count])
        numbers = numbers[1 + count:]
    if len(found) != len(calls):
        raise AssertionError("not one answer for each call")
    return found


def last(*calls):
    """Give the answer to the last of the calls."""
    return ask(*calls)[-1]


def many_changes(count):
    """Calls that make so many changes on branch 0, the text being a, none, a, none .."""
    return [write(0, "a") if number % 2 == 0 else write(0) for number in range(count)]


# Branch 0 has change 0 (a) and change 1 (b), which are in conflict; branch 1 has change 1.
CONFLICT = [branch(0), write(0, "a"), write(1, "b"), merge(0, 1)]
