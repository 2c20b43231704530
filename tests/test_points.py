"""The points 1 to 4 of the document, each on many sessions against a search through all sets."""

import itertools
import unittest

from sessions import apply, ask, blame, branch, change, delete, explain, last, lines, members, merge
from sessions import requirements, revert, revert_with_dependents, show, write


class Steps:
    """Numbers by a fixed rule, so that the sessions are the same each time."""

    def __init__(self, first):
        self.state = first

    def under(self, bound):
        self.state = (self.state * 1103515245 + 12345) % 2 ** 31
        return (self.state >> 16) % bound


def history(seed):
    """Thirteen calls on the branches 1, 2 and 3, which begin alike; branch 4 stays empty."""
    steps = Steps(seed)
    calls = [branch(0), write(1, "a", "b"), branch(1), branch(1), branch(0)]
    while len(calls) < 13:
        number, kind = 1 + steps.under(3), steps.under(8)
        if kind < 3:
            calls.append(write(number, *["abcd"[steps.under(4)] for count in range(steps.under(6))]))
        elif kind < 5:
            calls.append(delete(number, (steps.under(3), steps.under(2))))
        else:
            calls.append(merge(number, 1 + steps.under(3)))
    return calls


def changes_of(calls):
    """All changes that the calls make."""
    made = [answer for call, answer in zip(calls, ask(*calls)) if call[0] in (1, 2) and answer[0] >= 0]
    return list(range(len(made)))


def dependencies_of(calls):
    """For each change those on which it depends: all that the empty branch misses."""
    answers = [last(*calls, apply(4, number)) for number in changes_of(calls)]
    return [answer[2:] if answer[0] == -4 else [] for answer in answers]


def closed_sets(numbers, dependencies):
    """All sets out of the numbers that contain all on which their elements depend."""
    found = []
    for count in range(len(numbers) + 1):
        for chosen in itertools.combinations(numbers, count):
            if all(needed in chosen for number in chosen for needed in dependencies[number]):
                found.append(list(chosen))
    return found


BRANCHES = (1, 2, 3)
HISTORIES = [history(seed) for seed in range(80)]


class Points(unittest.TestCase):
    def test_1_the_requirements_are_the_smallest_set_with_all_dependencies(self):
        larger = 0
        for calls in HISTORIES:
            dependencies = dependencies_of(calls)
            for number in changes_of(calls):
                sets = [chosen for chosen in closed_sets(changes_of(calls), dependencies) if number in chosen]
                smallest = min(sets, key=len)
                self.assertEqual(last(*calls, requirements(number)), [len(smallest)] + smallest)
                self.assertTrue(all(set(smallest) <= set(chosen) for chosen in sets))
                larger += len(smallest) > 1 + len(dependencies[number])
        # Enough of them are more than the change and what it depends on itself.
        self.assertGreater(larger, 20)

    def test_2_after_revert_with_dependents_the_largest_set_with_all_dependencies_is_left(self):
        larger = 0
        for calls in HISTORIES:
            dependencies = dependencies_of(calls)
            for number in BRANCHES:
                before = members(number, *calls)
                for unwanted in before:
                    removing = [*calls, revert_with_dependents(number, unwanted)]
                    sets = closed_sets([left for left in before if left != unwanted], dependencies)
                    largest = max(sets, key=len)
                    removed = [left for left in before if left not in largest]
                    self.assertEqual(members(number, *removing), largest)
                    self.assertEqual(last(*removing), [len(removed)] + removed)
                    self.assertTrue(all(set(chosen) <= set(largest) for chosen in sets))
                    larger += len(removed) > 1
        self.assertGreater(larger, 100)

    def test_3_a_line_is_visible_exactly_when_all_reported_changes_are_removed(self):
        several = 0
        for calls in HISTORIES:
            dependencies = dependencies_of(calls)
            for number in BRANCHES:
                before = members(number, *calls)
                for place in [(inserting, line) for inserting in before for line in range(5)]:
                    reported = last(*calls, explain(number, *place))
                    if reported[0] == 0:
                        several += reported[1] > 1
                        self.assertEqual(reported[1], len(reported) - 2)
                        self.check_removals(calls, number, place, reported[2:], closed_sets(before, dependencies))
        self.assertGreater(several, 20)

    def check_removals(self, calls, number, place, reported, sets):
        """Remove changes down to each of the sets that has the line's own change."""
        for left in sets:
            if place[0] in left:
                removed = [gone for gone in members(number, *calls) if gone not in left]
                reverts = [revert(number, gone) for gone in reversed(removed)]
                answers = ask(*calls, *reverts, explain(number, *place), lines(number))[-2:]
                positions = answers[1][1:1 + 2 * answers[1][0]]
                visible = place in zip(positions[::2], positions[1::2])
                self.assertEqual(visible, not set(reported) & set(left))
                self.assertEqual(answers[0] == [1], visible)

    def test_4_blame_gives_the_change_of_each_line_and_all_are_visible(self):
        texts = 0
        for calls in HISTORIES:
            for number in BRANCHES:
                blamed, listed, text = ask(*calls, blame(number), lines(number), show(number))[-3:]
                positions = list(zip(listed[1:1 + 2 * listed[0]:2], listed[2:2 + 2 * listed[0]:2]))
                if listed[1 + 2 * listed[0]]:
                    self.assertEqual(blamed, [-5, listed[1 + 2 * listed[0]]])
                else:
                    self.assertEqual(blamed, [len(positions)] + [position[0] for position in positions])
                    for position, line in zip(positions, text[2::2], strict=True):
                        self.assertEqual(last(*calls, explain(number, *position)), [1])
                        self.assertEqual(inserted(calls, position[0])[position[1]], line)
                    texts += len(positions) > 2
        self.assertGreater(texts, 50)


def inserted(calls, number):
    """The bytes of the lines of a change, all of which have one byte."""
    answer = last(*calls, change(number))
    found, place = [], 1
    for hunk in range(answer[0]):
        count = answer[place + 4]
        found += answer[place + 6:place + 6 + 2 * count:2]
        place += 5 + 2 * count
    return found


if __name__ == "__main__":
    unittest.main()
