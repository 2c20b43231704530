import unittest

from sessions import CONFLICT, ask, branch, delete, explain, last, merge, revert, show, shown, write

ABC = write(0, "a", "b", "c")
# On each of the branches 0, 1 and 2 another change deletes b: 1, 2 and 3; that of branch 2 writes.
APART = [ABC, branch(0), branch(0), delete(0, (0, 1)), delete(1, (0, 2), (0, 1)), write(2, "a", "c")]


class Explain(unittest.TestCase):
    def test_a_visible_line(self):
        self.assertEqual(ask(ABC, explain(0, 0, 0), explain(0, 0, 1), explain(0, 0, 2)), [[0], [1], [1], [1]])

    def test_a_change_that_the_branch_does_not_have(self):
        self.assertEqual(ask(branch(0), ABC, explain(1, 0, 0), explain(1, 0, 2)), [[1], [0], [2], [2]])
        self.assertEqual(ask(ABC, revert(0, 0), explain(0, 0, 1)), [[0], [0], [2]])

    def test_a_line_that_one_change_deletes(self):
        self.assertEqual(ask(ABC, delete(0, (0, 1)), explain(0, 0, 0), explain(0, 0, 1), explain(0, 0, 2))[2:],
                         [[1], [0, 1, 1], [1]])
        self.assertEqual(last(ABC, write(0, "x", "c"), explain(0, 0, 0)), [0, 1, 1])

    def test_several_changes_in_increasing_order(self):
        self.assertEqual(last(*APART, merge(0, 2), merge(0, 1), explain(0, 0, 1)), [0, 3, 1, 2, 3])
        self.assertEqual(last(*APART, merge(2, 1), explain(2, 0, 1)), [0, 2, 2, 3])
        self.assertEqual(last(*APART, merge(2, 1), explain(2, 0, 2)), [0, 1, 2])

    def test_only_changes_of_the_branch(self):
        self.assertEqual(ask(*APART, *[explain(number, 0, 1) for number in range(3)])[6:],
                         [[0, 1, 1], [0, 1, 2], [0, 1, 3]])
        self.assertEqual(ask(*APART, branch(0), revert(3, 1), explain(3, 0, 1), explain(0, 0, 2))[8:], [[1], [1]])

    def test_without_those_that_were_reverted(self):
        calls = [*APART, merge(0, 1), merge(0, 2), revert(0, 2)]
        self.assertEqual(last(*calls, explain(0, 0, 1)), [0, 2, 1, 3])
        self.assertEqual(last(*calls, revert(0, 1), revert(0, 3), explain(0, 0, 1)), [1])

    def test_a_deleted_line_whose_change_the_branch_does_not_have(self):
        self.assertEqual(ask(branch(0), ABC, delete(0, (0, 1)), explain(1, 0, 1))[3:], [[2]])

    def test_the_lines_are_numbered_over_all_hunks(self):
        calls = [write(0, "m"), write(0, "x", "m", "y", "z"), delete(0, (1, 2))]
        self.assertEqual(ask(*calls, *[explain(0, 1, number) for number in range(4)])[3:],
                         [[1], [1], [0, 1, 2], [-3]])

    def test_a_line_of_the_same_number_in_another_change(self):
        calls = [write(0, "a", "b"), write(0, "a", "b", "c", "d"), delete(0, (1, 1))]
        self.assertEqual(ask(*calls, explain(0, 0, 1), explain(0, 1, 1))[3:], [[1], [0, 1, 2]])

    def test_an_equal_line_that_was_written_again(self):
        calls = [write(0, "a"), write(0), write(0, "a")]
        self.assertEqual(ask(*calls, explain(0, 0, 0), explain(0, 2, 0))[3:], [[0, 1, 1], [1]])

    def test_lines_in_conflict(self):
        self.assertEqual(ask(*CONFLICT, delete(0, (0, 0)), explain(0, 0, 0), explain(0, 1, 0), explain(1, 0, 0))[5:],
                         [[0, 1, 2], [1], [2]])
        self.assertEqual(ask(*CONFLICT, explain(0, 0, 0), explain(0, 1, 0))[4:], [[1], [1]])

    def test_it_changes_nothing(self):
        self.assertEqual(ask(*APART, explain(0, 0, 1), explain(0, 0, 1), show(0), write(0))[7:],
                         [[0, 1, 1], shown("a", "c"), [4]])


class ExplainErrors(unittest.TestCase):
    def test_a_change_that_does_not_exist(self):
        self.assertEqual(ask(explain(0, 0, 0), ABC, explain(0, 1, 0), explain(0, 1000000, 1000000), show(0), write(0)),
                         [[-3], [0], [-3], [-3], shown("a", "b", "c"), [1]])

    def test_a_line_that_the_change_does_not_have(self):
        self.assertEqual(ask(ABC, explain(0, 0, 3), explain(0, 0, 1000000), show(0)),
                         [[0], [-3], [-3], shown("a", "b", "c")])

    def test_a_change_without_lines(self):
        self.assertEqual(ask(ABC, delete(0, (0, 1)), explain(0, 1, 0), explain(0, 1, 1))[2:], [[-3], [-3]])
        self.assertEqual(last(ABC, write(0, "a"), explain(0, 1, 0)), [-3])

    def test_also_where_the_branch_does_not_have_the_change(self):
        self.assertEqual(ask(branch(0), ABC, explain(1, 0, 3), explain(1, 1, 0), explain(1, 0, 2))[2:],
                         [[-3], [-3], [2]])
        self.assertEqual(ask(ABC, delete(0, (0, 1)), revert(0, 1), explain(0, 1, 0))[3:], [[-3]])

    def test_a_missing_branch_comes_first(self):
        self.assertEqual(ask(explain(1, 0, 0), ABC, explain(1, 0, 0), explain(1, 5, 0), explain(1, 0, 3),
                             explain(1000000, 1000000, 1000000), branch(0), explain(1, 0, 0)),
                         [[-2], [0], [-2], [-2], [-2], [-2], [1], [1]])


if __name__ == "__main__":
    unittest.main()
