import unittest

from sessions import CHAIN, apply, ask, branch, delete, last, merge, revert, show, shown, write


class Apply(unittest.TestCase):
    def test_it_counts_the_changes_afterwards(self):
        calls = [*CHAIN, apply(1, 0), apply(1, 1), apply(1, 3), show(1)]
        self.assertEqual(ask(*calls)[5:], [[1], [2], [3], shown("a", "x", "b")])

    def test_changes_may_come_in_another_order(self):
        calls = [branch(0), write(0, "a", "b"), write(0, "a", "b", "c"), write(0, "a", "c")]
        calls += [apply(1, 0), apply(1, 2), apply(1, 1), show(1)]
        self.assertEqual(ask(*calls)[4:], [[1], [2], [3], shown("a", "c")])

    def test_a_reverted_change_comes_back(self):
        self.assertEqual(last(*CHAIN, revert(0, 3), apply(0, 3), show(0)), shown("a", "x", "b", "c"))

    def test_other_branches_stay(self):
        self.assertEqual(last(*CHAIN, branch(1), apply(1, 0), show(2)), shown())

    def test_a_change_that_does_not_exist(self):
        self.assertEqual(ask(apply(0, 0), write(0, "a"), apply(0, 1), apply(0, 1000000), show(0)),
                         [[-3], [0], [-3], [-3], shown("a")])

    def test_a_change_that_the_branch_has(self):
        self.assertEqual(ask(*CHAIN, apply(0, 0), apply(0, 3), revert(0, 3))[5:], [[-6], [-6], [3]])

    def test_missing_dependencies_in_increasing_order(self):
        self.assertEqual(last(*CHAIN, apply(1, 3)), [-4, 2, 0, 1])
        # Change 3 deletes c, b and a, which 2, 1 and 0 inserted.
        calls = [*CHAIN[:4], delete(0, (2, 0), (1, 0), (0, 0)), apply(1, 3)]
        self.assertEqual(last(*calls), [-4, 3, 0, 1, 2])

    def test_many_changes_are_in_increasing_order_too(self):
        calls = [branch(0)] + [write(0, *"abcdefgh"[:count]) for count in range(1, 9)]
        calls += [write(0, *"abcdefgi"), delete(0, (8, 0), (3, 0), (0, 0))]
        self.assertEqual(last(*calls, apply(1, 9)), [-4, 3, 0, 3, 8])

    def test_only_those_that_are_missing(self):
        self.assertEqual(last(*CHAIN, apply(1, 0), apply(1, 3)), [-4, 1, 1])

    def test_only_those_on_which_it_depends_itself(self):
        self.assertEqual(last(*CHAIN, apply(1, 2)), [-4, 1, 1])

    def test_a_refusal_leaves_the_branch_as_it_was(self):
        self.assertEqual(ask(*CHAIN, apply(1, 3), show(1), apply(1, 0))[6:], [shown(), [1]])

    def test_a_missing_branch_comes_first(self):
        self.assertEqual(ask(apply(1, 0), write(0, "a"), apply(1, 0), apply(2, 5)),
                         [[-2], [0], [-2], [-2]])


class Revert(unittest.TestCase):
    def test_it_counts_the_changes_afterwards(self):
        self.assertEqual(ask(*CHAIN, revert(0, 3), revert(0, 2), revert(0, 1), revert(0, 0), show(0))[5:],
                         [[3], [2], [1], [0], shown()])

    def test_lines_that_it_deleted_are_visible_again(self):
        self.assertEqual(last(write(0, "a", "b"), write(0, "b"), revert(0, 1), show(0)), shown("a", "b"))

    def test_a_change_that_the_branch_does_not_have(self):
        self.assertEqual(ask(*CHAIN, revert(1, 0), revert(0, 4), revert(0, 1000000), show(0))[5:],
                         [[-6], [-6], [-6], shown("a", "x", "b", "c")])
        self.assertEqual(last(*CHAIN, revert(0, 3), revert(0, 3)), [-6])

    def test_depending_changes_in_increasing_order(self):
        self.assertEqual(last(*CHAIN, revert(0, 1)), [-4, 2, 2, 3])
        calls = [branch(0), *CHAIN[1:], apply(1, 0), apply(1, 1), apply(1, 3), apply(1, 2)]
        self.assertEqual(last(*calls, revert(1, 1)), [-4, 2, 2, 3])

    def test_only_those_that_depend_on_it_themselves(self):
        self.assertEqual(last(*CHAIN[:4], revert(0, 0)), [-4, 1, 1])

    def test_only_those_of_the_branch(self):
        self.assertEqual(last(*CHAIN, revert(0, 2), revert(0, 1)), [-4, 1, 3])
        self.assertEqual(last(*CHAIN, apply(1, 0), revert(1, 0)), [0])

    def test_a_refusal_leaves_the_branch_as_it_was(self):
        self.assertEqual(ask(*CHAIN, revert(0, 1), show(0), revert(0, 3))[6:],
                         [shown("a", "x", "b", "c"), [3]])

    def test_its_number_is_not_given_again(self):
        self.assertEqual(last(write(0, "a"), revert(0, 0), write(0, "a")), [1])

    def test_other_branches_stay(self):
        calls = [write(0, "a"), branch(0), branch(1), merge(2, 0), revert(1, 0)]
        self.assertEqual(ask(*calls, show(0), show(1), show(2))[5:], [shown("a"), shown(), shown("a")])

    def test_a_missing_branch_comes_first(self):
        self.assertEqual(ask(revert(1, 0), write(0, "a"), revert(1, 0)), [[-2], [0], [-2]])


if __name__ == "__main__":
    unittest.main()
