import unittest

from sessions import CHAIN, ask, branch, delete, last, merge, requirements, revert, revert_with_dependents
from sessions import show, shown, write


class Requirements(unittest.TestCase):
    def test_a_change_alone(self):
        self.assertEqual(last(write(0, "a"), requirements(0)), [1, 0])
        self.assertEqual(last(branch(0), write(0, "a"), write(1, "b"), requirements(1)), [1, 1])

    def test_a_chain(self):
        self.assertEqual(ask(*CHAIN, requirements(0), requirements(1), requirements(2), requirements(3))[5:],
                         [[1, 0], [2, 0, 1], [3, 0, 1, 2], [3, 0, 1, 3]])

    def test_a_chain_of_twelve(self):
        # Each text of one line replaces the one ahead of it.
        calls = [write(0, [number]) for number in range(12)]
        self.assertEqual(last(*calls, requirements(11)), [12] + list(range(12)))
        self.assertEqual(last(*calls, requirements(6)), [7] + list(range(7)))

    def test_one_that_is_reached_in_two_ways_is_told_once(self):
        # 1 and 2 put lines on both sides of change 0's; 3 deletes both of these.
        calls = [write(0, "m"), write(0, "a", "m"), write(0, "a", "m", "z"), delete(0, (2, 0), (1, 0))]
        self.assertEqual(last(*calls, requirements(3)), [4, 0, 1, 2, 3])

    def test_one_that_is_reached_at_once_and_in_steps_is_told_once(self):
        calls = [write(0, "a"), write(0, "a", "b"), write(0, "a", "x", "b"), requirements(2)]
        self.assertEqual(last(*calls), [3, 0, 1, 2])

    def test_in_increasing_order(self):
        # 4 stands on 1 and 3, and 3 on 2; 0 has nothing to do with them.
        calls = [branch(0), write(0, "q"), write(1, "a"), branch(1), revert(2, 1),
                 write(2, "b"), write(2, "b", "c"), merge(1, 2), delete(1, (3, 0), (1, 0))]
        self.assertEqual(last(*calls, requirements(4)), [4, 1, 2, 3, 4])
        self.assertEqual(last(*calls, requirements(3)), [2, 2, 3])

    def test_not_what_depends_on_it(self):
        self.assertEqual(last(write(0, "a"), write(0), requirements(0)), [1, 0])

    def test_not_changes_that_were_only_there_at_the_time(self):
        # x stands on a alone, though change 1 was in the branch.
        calls = [write(0, "a"), write(0, "a", "b"), write(0, "x", "a", "b"), requirements(2)]
        self.assertEqual(last(*calls), [2, 0, 2])

    def test_one_that_no_branch_has_any_more(self):
        self.assertEqual(last(*CHAIN, revert(0, 3), requirements(3)), [3, 0, 1, 3])
        self.assertEqual(ask(*CHAIN, revert_with_dependents(0, 0), requirements(2), requirements(3))[6:],
                         [[3, 0, 1, 2], [3, 0, 1, 3]])

    def test_it_changes_nothing(self):
        self.assertEqual(ask(*CHAIN, requirements(2), requirements(2), show(0), show(1), write(1, "n"))[6:],
                         [[3, 0, 1, 2], shown("a", "x", "b", "c"), shown(), [4]])

    def test_one_that_does_not_exist(self):
        self.assertEqual(ask(requirements(0), write(0, "a"), requirements(1), requirements(1000000), requirements(0),
                             write(0)), [[-3], [0], [-3], [-3], [1, 0], [1]])

    def test_branches_do_not_matter(self):
        # There is branch 0 alone.
        calls = [write(0, "a"), write(0), write(0, "b")]
        self.assertEqual(ask(*calls, requirements(1), requirements(2), requirements(3))[3:],
                         [[2, 0, 1], [1, 2], [-3]])


if __name__ == "__main__":
    unittest.main()
