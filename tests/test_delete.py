import unittest

from sessions import CONFLICT, apply, ask, branch, delete, last, many_changes, merge, revert, show
from sessions import shown, write

ABC = write(0, "a", "b", "c")


class Delete(unittest.TestCase):
    def test_the_lines_are_gone(self):
        self.assertEqual(ask(ABC, delete(0, (0, 1)), show(0)), [[0], [1], shown("a", "c")])
        self.assertEqual(ask(ABC, delete(0, (0, 2), (0, 0)), show(0)), [[0], [1], shown("b")])
        self.assertEqual(ask(ABC, delete(0, (0, 0), (0, 1), (0, 2)), show(0)), [[0], [1], shown()])

    def test_lines_of_several_changes(self):
        calls = [write(0, "a", "b"), write(0, "a", "b", "c", "d"), delete(0, (0, 1), (1, 0))]
        self.assertEqual(ask(*calls, show(0))[2:], [[2], shown("a", "d")])

    def test_other_branches_keep_them(self):
        self.assertEqual(last(ABC, branch(0), delete(1, (0, 1)), show(0)), shown("a", "b", "c"))

    def test_it_depends_on_the_changes_of_the_lines(self):
        calls = [branch(0), write(0, "a"), write(0, "a", "b"), write(0, "a", "b", "c")]
        self.assertEqual(last(*calls, delete(0, (2, 0), (0, 0)), apply(1, 3)), [-4, 2, 0, 2])
        self.assertEqual(last(*calls, delete(0, (1, 0)), revert(0, 1)), [-4, 2, 2, 3])

    def test_lines_in_conflict_can_be_deleted(self):
        self.assertEqual(ask(*CONFLICT, delete(0, (0, 0)), show(0))[4:], [[2], shown("b")])

    def test_two_branches_may_delete_the_same_line(self):
        calls = [ABC, branch(0), delete(0, (0, 1)), delete(1, (0, 1)), merge(0, 1), revert(0, 1)]
        self.assertEqual(last(*calls, show(0)), shown("a", "c"))
        self.assertEqual(last(*calls, revert(0, 2), show(0)), shown("a", "b", "c"))


class DeleteErrors(unittest.TestCase):
    def refuse(self, *lines):
        self.assertEqual(ask(ABC, delete(0, *lines), show(0), write(0))[1:],
                         [[-3], shown("a", "b", "c"), [1]])

    def test_no_line(self):
        self.refuse()

    def test_a_line_given_twice(self):
        self.refuse((0, 1), (0, 1))
        self.refuse((0, 1), (0, 2), (0, 0), (0, 1))

    def test_a_line_that_does_not_exist(self):
        self.refuse((0, 3))
        self.refuse((1, 0))
        self.refuse((0, 1000000))
        self.refuse((1000000, 0))
        self.refuse((0, 0), (0, 3))
        self.refuse((0, 3), (0, 0))

    def test_a_line_that_is_deleted_already(self):
        self.assertEqual(ask(ABC, delete(0, (0, 1)), delete(0, (0, 1)), write(0, "a"))[2:], [[-3], [2]])
        self.assertEqual(last(ABC, write(0, "a", "c"), delete(0, (0, 1))), [-3])

    def test_a_line_whose_change_the_branch_does_not_have(self):
        self.assertEqual(last(branch(0), ABC, delete(1, (0, 1))), [-3])
        self.assertEqual(last(ABC, revert(0, 0), delete(0, (0, 1))), [-3])

    def test_a_line_is_visible_again_when_its_deletion_is_reverted(self):
        calls = [ABC, delete(0, (0, 1)), revert(0, 1)]
        self.assertEqual(ask(*calls, show(0), delete(0, (0, 1)))[3:], [shown("a", "b", "c"), [2]])

    def test_a_thirteenth_change(self):
        calls = many_changes(11) + [branch(0), write(1)]
        self.assertEqual(ask(*calls, delete(0, (10, 0)), show(0))[13:], [[-8], shown("a")])
        self.assertEqual(last(*many_changes(11), delete(0, (10, 0))), [11])

    def test_bad_lines_come_before_too_many_changes(self):
        calls = many_changes(11) + [branch(0), write(1)]
        self.assertEqual(last(*calls, delete(0)), [-3])
        self.assertEqual(last(*calls, delete(0, (10, 0), (10, 0))), [-3])
        self.assertEqual(last(*calls, delete(0, (8, 0))), [-3])

    def test_a_missing_branch_comes_first(self):
        self.assertEqual(ask(delete(1), delete(1, (0, 0)), ABC, delete(1, (0, 0))),
                         [[-2], [-2], [0], [-2]])
        self.assertEqual(last(*many_changes(12), delete(1, (0, 0))), [-2])


if __name__ == "__main__":
    unittest.main()
