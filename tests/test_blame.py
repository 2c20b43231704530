import unittest

from sessions import CONFLICT, ask, blame, branch, delete, last, merge, revert, show, shown, write


class Blame(unittest.TestCase):
    def test_the_change_of_each_line_in_order(self):
        calls = [write(0, "c"), write(0, "b", "c"), write(0, "a", "b", "c")]
        self.assertEqual(last(*calls, blame(0)), [3, 2, 1, 0])

    def test_several_lines_of_one_change(self):
        self.assertEqual(last(write(0, "m"), write(0, "x", "y", "m", "z"), blame(0)), [4, 1, 1, 0, 1])

    def test_an_empty_text(self):
        self.assertEqual(ask(blame(0)), [[0]])
        self.assertEqual(last(write(0, "a"), write(0), blame(0)), [0])

    def test_deleted_lines_are_not_told(self):
        calls = [write(0, "a", "b"), write(0, "a", "x", "b"), delete(0, (0, 0))]
        self.assertEqual(last(*calls, blame(0)), [2, 1, 0])

    def test_the_change_that_inserted_a_line_not_one_that_has_equal_bytes(self):
        calls = [write(0, "a", "b"), write(0, "b"), write(0, "a", "b")]
        self.assertEqual(last(*calls, blame(0)), [2, 2, 0])

    def test_a_merged_text(self):
        calls = [write(0, "m"), branch(0), write(0, "m", "z"), write(1, "a", "m"), merge(0, 1)]
        self.assertEqual(ask(*calls, blame(0), blame(1))[5:], [[3, 2, 0, 1], [2, 2, 0]])

    def test_changes_of_two_digits(self):
        calls = [write(0, [number]) for number in range(10)] + [write(0, [9], [10]), write(0, [11], [9], [10])]
        self.assertEqual(last(*calls, blame(0)), [3, 11, 9, 10])

    def test_it_changes_nothing(self):
        self.assertEqual(ask(write(0, "a"), blame(0), blame(0), show(0), write(0))[2:], [[1, 0], shown("a"), [1]])


class BlameErrors(unittest.TestCase):
    def test_conflicts_and_how_many(self):
        self.assertEqual(ask(*CONFLICT, blame(0), blame(1))[4:], [[-5, 1], [1, 1]])
        calls = [branch(0), branch(0), write(0, "a", "b", "c"), write(1, "d", "e"), merge(0, 1)]
        self.assertEqual(last(*calls, blame(0)), [-5, 6])
        self.assertEqual(last(*calls, write(2, "f"), merge(0, 2), blame(0)), [-5, 11])

    def test_a_refusal_leaves_the_branch_as_it_was(self):
        self.assertEqual(ask(*CONFLICT, blame(0), delete(0, (0, 0)), blame(0), revert(0, 2), blame(0))[4:],
                         [[-5, 1], [2], [1, 1], [2], [-5, 1]])

    def test_a_missing_branch(self):
        self.assertEqual(ask(blame(1), blame(1000000), branch(0), blame(1)), [[-2], [-2], [1], [0]])


if __name__ == "__main__":
    unittest.main()
