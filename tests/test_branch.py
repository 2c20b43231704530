import unittest

from sessions import ask, branch, last, many_changes, revert, show, shown, write


class Branch(unittest.TestCase):
    def test_the_numbers_go_on_from_one(self):
        self.assertEqual(ask(branch(0), branch(0), branch(1), branch(3)), [[1], [2], [3], [4]])

    def test_it_has_the_same_changes(self):
        calls = [write(0, "a"), write(0, "a", "b"), branch(0)]
        self.assertEqual(last(*calls, show(1)), shown("a", "b"))
        self.assertEqual(last(*calls, revert(1, 1)), [1])

    def test_a_branch_of_an_empty_branch_is_empty(self):
        self.assertEqual(last(branch(0), write(0, "a"), branch(1), show(2)), shown())

    def test_both_go_on_apart(self):
        calls = [write(0, "a"), branch(0), write(0, "b"), write(1, "c"), revert(1, 2)]
        self.assertEqual(last(*calls, show(0)), shown("b"))
        self.assertEqual(last(*calls, show(1)), shown("a"))

    def test_there_is_no_sixth(self):
        calls = [branch(0)] * 4
        self.assertEqual(ask(*calls, branch(0), branch(4)), [[1], [2], [3], [4], [-8], [-8]])
        self.assertEqual(ask(*calls, branch(0), show(5), write(4, "a"), show(4), show(0))[4:],
                         [[-8], [-2], [0], shown("a"), shown()])

    def test_of_a_branch_that_does_not_exist(self):
        self.assertEqual(ask(branch(1), branch(0), branch(2), branch(1000000), branch(1)),
                         [[-2], [1], [-2], [-2], [2]])

    def test_a_missing_branch_is_told_before_too_many(self):
        self.assertEqual(last(*[branch(0)] * 4, branch(5)), [-2])

    def test_changes_do_not_limit_branches(self):
        self.assertEqual(last(*many_changes(12), branch(0), show(1)), shown())


if __name__ == "__main__":
    unittest.main()
