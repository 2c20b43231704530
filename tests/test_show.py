import unittest

from sessions import CONFLICT, ask, branch, delete, last, merge, revert, show, shown, write


class Show(unittest.TestCase):
    def test_an_empty_branch(self):
        self.assertEqual(ask(show(0)), [[0]])

    def test_counts_stand_ahead_of_bytes(self):
        self.assertEqual(last(write(0, "ab", "", "c"), show(0)), [3, 2, 97, 98, 0, 1, 99])

    def test_a_line_inserted_later_may_come_first(self):
        self.assertEqual(last(write(0, "c"), write(0, "b", "c"), write(0, "a", "b", "c"), show(0)),
                         shown("a", "b", "c"))

    def test_deleted_lines_keep_lines_in_order(self):
        # x precedes b, b precedes y; b is deleted, no hunk has x and y.
        calls = [write(0, "a", "b", "c"), branch(0), write(0, "a", "x", "b", "c"),
                 write(1, "a", "b", "y", "c"), merge(0, 1), delete(0, (0, 1)), show(0)]
        self.assertEqual(last(*calls), shown("a", "x", "y", "c"))

    def test_it_changes_nothing(self):
        self.assertEqual(ask(write(0, "a"), show(0), show(0), write(0)), [[0], shown("a"), shown("a"), [1]])

    def test_a_missing_branch(self):
        self.assertEqual(ask(show(1), show(1000000), branch(0), show(1)), [[-2], [-2], [1], shown()])


class Conflicts(unittest.TestCase):
    def test_one_pair(self):
        self.assertEqual(ask(*CONFLICT, show(0), show(1))[4:], [[-5, 1], shown("b")])

    def test_each_pair_counts_once(self):
        calls = [branch(0), branch(0), write(0, "a", "b", "c"), write(1, "d", "e"), merge(0, 1)]
        self.assertEqual(last(*calls, show(0)), [-5, 6])
        self.assertEqual(last(*calls, write(2, "f"), merge(0, 2), show(0)), [-5, 11])

    def test_equal_lines_are_in_conflict_too(self):
        self.assertEqual(last(branch(0), write(0, "a"), write(1, "a"), merge(0, 1), show(0)), [-5, 1])

    def test_deleted_lines_are_not_in_conflict(self):
        self.assertEqual(last(*CONFLICT, delete(0, (1, 0)), show(0)), shown("a"))

    def test_no_conflict_without_the_change(self):
        self.assertEqual(last(*CONFLICT, revert(0, 0), show(0)), shown("b"))

    def test_lines_between_the_same_lines(self):
        calls = [write(0, "a", "z"), branch(0), write(0, "a", "b", "z"), write(1, "a", "c", "z")]
        self.assertEqual(last(*calls, merge(0, 1), show(0)), [-5, 1])

    def test_a_line_put_where_another_was_deleted(self):
        # x lies between a and c, when b is deleted already; y lies between b and c.
        calls = [write(0, "a", "b", "c"), branch(0), delete(0, (0, 1)), write(0, "a", "x", "c"),
                 write(1, "a", "b", "y", "c"), merge(0, 1), show(0)]
        self.assertEqual(last(*calls), [-5, 1])

    def test_start_and_end_do_not_join_lines(self):
        calls = [branch(0), write(0, "a"), write(0, "a", "b"), write(1, "c"), write(1, "d", "c")]
        self.assertEqual(last(*calls, merge(0, 1), show(0)), [-5, 4])


if __name__ == "__main__":
    unittest.main()
