import unittest

from sessions import apply, ask, branch, last, merge, revert, show, shown, write

# Branch 0 has 0 (m), 1 (a ahead of it), 2 (b ahead of both); branch 1 has 0, 3 (z behind m).
TWO = [write(0, "m"), branch(0), write(0, "a", "m"), write(0, "b", "a", "m"), write(1, "m", "z")]


class Merge(unittest.TestCase):
    def test_it_counts_the_changes_that_were_added(self):
        self.assertEqual(ask(*TWO, merge(0, 1), show(0))[5:], [[1], shown("b", "a", "m", "z")])
        self.assertEqual(ask(*TWO, merge(1, 0), show(1))[5:], [[2], shown("b", "a", "m", "z")])

    def test_the_other_branch_stays(self):
        self.assertEqual(last(*TWO, merge(0, 1), show(1)), shown("m", "z"))
        self.assertEqual(last(*TWO, merge(0, 1), revert(0, 3), show(1)), shown("m", "z"))

    def test_an_added_change_can_be_reverted(self):
        self.assertEqual(ask(*TWO, merge(1, 0), revert(1, 1), revert(1, 2), revert(1, 3))[6:],
                         [[-4, 1, 2], [3], [2]])

    def test_the_changes_of_the_branch_stay_in_increasing_order(self):
        self.assertEqual(last(*TWO, merge(1, 0), revert(1, 0)), [-4, 2, 1, 3])

    def test_nothing_to_add(self):
        self.assertEqual(ask(*TWO, merge(0, 1), merge(0, 1), show(0))[6:], [[0], shown("b", "a", "m", "z")])
        self.assertEqual(ask(branch(0), write(0, "a"), merge(0, 1), show(0))[2:], [[0], shown("a")])

    def test_with_itself(self):
        self.assertEqual(ask(*TWO, merge(0, 0), show(0))[5:], [[0], shown("b", "a", "m")])
        self.assertEqual(ask(merge(0, 0)), [[0]])

    def test_it_may_bring_conflicts(self):
        self.assertEqual(ask(branch(0), write(0, "a"), write(1, "b"), merge(1, 0), show(1), show(0))[3:],
                         [[1], [-5, 1], shown("a")])

    def test_a_branch_that_does_not_exist(self):
        self.assertEqual(ask(merge(1, 0), merge(0, 1), merge(1, 1), merge(0, 1000000)), [[-2]] * 4)
        self.assertEqual(ask(*TWO, merge(2, 0), merge(0, 2), show(0), apply(0, 3))[5:],
                         [[-2], [-2], shown("b", "a", "m"), [4]])


if __name__ == "__main__":
    unittest.main()
