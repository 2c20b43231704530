import unittest

from sessions import CONFLICT, ask, branch, delete, last, lines, listed, merge, revert, write


class Lines(unittest.TestCase):
    def test_an_empty_branch(self):
        self.assertEqual(ask(lines(0)), [[0, 0]])

    def test_the_positions_in_order(self):
        calls = [write(0, "c"), write(0, "b", "c"), write(0, "a", "b", "c")]
        self.assertEqual(last(*calls, lines(0)), [3, 2, 0, 1, 0, 0, 0, 0])

    def test_the_lines_of_a_change_are_numbered_over_its_hunks(self):
        calls = [write(0, "m"), write(0, "x", "y", "m", "z")]
        self.assertEqual(last(*calls, lines(0)), listed([(1, 0), (1, 1), (0, 0), (1, 2)]))

    def test_deleted_lines_are_not_told(self):
        self.assertEqual(last(write(0, "a", "b", "c"), delete(0, (0, 1)), lines(0)), listed([(0, 0), (0, 2)]))
        self.assertEqual(last(write(0, "a", "b"), delete(0, (0, 1), (0, 0)), lines(0)), [0, 0])

    def test_only_lines_of_the_branch(self):
        calls = [branch(0), write(0, "a"), write(1, "b", "c")]
        self.assertEqual(ask(*calls, lines(0), lines(1))[3:], [listed([(0, 0)]), listed([(1, 0), (1, 1)])])

    def test_a_reverted_deletion_gives_the_line_back(self):
        calls = [write(0, "a", "b"), delete(0, (0, 0)), lines(0), revert(0, 1), lines(0)]
        self.assertEqual(ask(*calls)[2:], [listed([(0, 1)]), [1], listed([(0, 0), (0, 1)])])

    def test_a_deleted_line_still_puts_lines_in_order(self):
        # x precedes b, b precedes y; b is deleted, no hunk has x and y, and y has the lower change.
        calls = [write(0, "a", "b", "c"), branch(0), write(1, "a", "b", "y", "c"),
                 write(0, "a", "x", "b", "c"), merge(0, 1), delete(0, (0, 1)), lines(0)]
        self.assertEqual(last(*calls), listed([(0, 0), (2, 0), (1, 0), (0, 2)]))

    def test_several_deleted_lines_still_put_lines_in_order(self):
        calls = [write(0, "b"), write(0, "b", "c"), write(0, "b", "c", "d"), branch(0),
                 write(1, "b", "c", "d", "y"), write(0, "x", "b", "c", "d"), merge(0, 1)]
        self.assertEqual(last(*calls, delete(0, (0, 0), (1, 0), (2, 0)), lines(0)),
                         listed([(4, 0), (3, 0)]))

    def test_it_changes_nothing(self):
        self.assertEqual(ask(*CONFLICT, lines(0), lines(0), delete(0, (0, 0)), lines(0))[5:],
                         [listed([(0, 0), (1, 0)], [(0, 0), (1, 0)]), [2], listed([(1, 0)])])

    def test_a_missing_branch(self):
        self.assertEqual(ask(lines(1), lines(1000000), branch(0), lines(1), write(1, "a")),
                         [[-2], [-2], [1], [0, 0], [0]])


class Conflicts(unittest.TestCase):
    def test_one_pair(self):
        self.assertEqual(last(*CONFLICT, lines(0)), [2, 0, 0, 1, 0, 1, 0, 0, 1, 0])
        self.assertEqual(last(*CONFLICT, lines(1)), [1, 1, 0, 0])

    def test_the_pairs_go_by_their_first_and_then_by_their_second_lines(self):
        calls = [branch(0), branch(0), write(0, "a", "b"), write(1, "c"), write(2, "d"), merge(0, 2), merge(0, 1)]
        a, b, c, d = (0, 0), (0, 1), (1, 0), (2, 0)
        self.assertEqual(last(*calls, lines(0)),
                         listed([a, b, c, d], [a, c], [a, d], [b, c], [b, d], [c, d]))

    def test_the_earlier_line_is_the_one_that_is_first_in_the_order(self):
        # a waits for b, so both lines of change 1 stand ahead of change 0.
        calls = [branch(0), write(0, "a"), write(1, "d", "e"), write(0, "b", "a"), merge(0, 1)]
        a, b, d, e = (0, 0), (2, 0), (1, 0), (1, 1)
        self.assertEqual(last(*calls, lines(0)), listed([d, e, b, a], [d, b], [d, a], [e, b], [e, a]))

    def test_lines_that_precede_each_other_are_no_pair(self):
        calls = [write(0, "a", "z"), branch(0), write(0, "a", "b", "z"), write(1, "a", "c", "z"), merge(0, 1)]
        self.assertEqual(last(*calls, lines(0)),
                         listed([(0, 0), (1, 0), (2, 0), (0, 1)], [(1, 0), (2, 0)]))

    def test_lines_in_conflict_need_not_be_neighbours(self):
        calls = [write(0, "a", "z"), branch(0), write(0, "a", "b", "z"), write(0, "a", "b", "c", "z"),
                 write(1, "a", "d", "z"), merge(0, 1)]
        self.assertEqual(last(*calls, lines(0)),
                         listed([(0, 0), (1, 0), (2, 0), (3, 0), (0, 1)],
                                [(1, 0), (3, 0)], [(2, 0), (3, 0)]))

    def test_deleted_lines_are_in_no_pair(self):
        self.assertEqual(last(*CONFLICT, delete(0, (1, 0)), lines(0)), listed([(0, 0)]))

    def test_a_deleted_line_keeps_its_neighbours_out_of_conflict(self):
        calls = [write(0, "b"), branch(0), write(0, "a", "b"), write(1, "b", "c"), merge(0, 1)]
        self.assertEqual(last(*calls, delete(0, (0, 0)), lines(0)), listed([(1, 0), (2, 0)]))


class Order(unittest.TestCase):
    def test_by_change_and_then_by_number(self):
        calls = [branch(0), write(0, "a", "b"), write(1, "c", "d"), merge(1, 0), merge(0, 1)]
        a, b, c, d = (0, 0), (0, 1), (1, 0), (1, 1)
        expected = listed([a, b, c, d], [a, c], [a, d], [b, c], [b, d])
        self.assertEqual(ask(*calls, lines(0), lines(1))[5:], [expected, expected])

    def test_changes_are_ordered_as_numbers(self):
        calls = [branch(0)] + [write(0, *"abcdefgh"[:count]) for count in range(1, 9)]
        calls += [write(0), write(0, "i"), write(1, "j"), revert(1, 10), write(1, "k"), merge(1, 0)]
        # Of the changes 9 and 11, in conflict, the lower number comes first.
        self.assertEqual(last(*calls, lines(1)), listed([(9, 0), (11, 0)], [(9, 0), (11, 0)]))

    def test_a_preceded_line_waits(self):
        calls = [branch(0), write(0, "a"), write(1, "b", "c"), write(0, "d", "a"), merge(0, 1)]
        a, b, c, d = (0, 0), (1, 0), (1, 1), (2, 0)
        self.assertEqual(last(*calls, lines(0)), listed([b, c, d, a], [b, d], [b, a], [c, d], [c, a]))

    def test_a_line_is_free_as_soon_as_those_ahead_of_it_stand(self):
        calls = [branch(0), write(0, "a", "b"), write(0, "c", "a", "b"), write(1, "d"), merge(0, 1)]
        a, b, c, d = (0, 0), (0, 1), (1, 0), (2, 0)
        self.assertEqual(last(*calls, lines(0)), listed([c, a, b, d], [c, d], [a, d], [b, d]))

    def test_a_line_waits_for_one_that_precedes_it_in_many_steps(self):
        # d precedes a by way of c alone, which is deleted.
        calls = [branch(0), write(0, "a"), write(0, "c", "a"), write(0, "d", "c", "a"),
                 delete(0, (1, 0)), write(1, "e"), merge(0, 1)]
        a, d, e = (0, 0), (2, 0), (4, 0)
        self.assertEqual(last(*calls, lines(0)), listed([d, a, e], [d, e], [a, e]))


if __name__ == "__main__":
    unittest.main()
