import unittest

from sessions import CHAIN, CONFLICT, END, START, ask, branch, change, delete, described, last, merge
from sessions import revert, revert_with_dependents, show, shown, write


class Hunks(unittest.TestCase):
    def test_between_the_start_and_the_end(self):
        self.assertEqual(last(write(0, "a", "b"), change(0)),
                         [1, -1, 0, -2, 0, 2, 1, 97, 1, 98, 0, 0])

    def test_between_the_start_and_a_line(self):
        self.assertEqual(last(write(0, "b"), write(0, "a", "b"), change(1)),
                         [1, -1, 0, 0, 0, 1, 1, 97, 0, 1, 0])

    def test_between_a_line_and_the_end(self):
        self.assertEqual(last(write(0, "a", "b"), write(0, "a", "b", "c"), change(1)),
                         [1, 0, 1, -2, 0, 1, 1, 99, 0, 1, 0])

    def test_between_two_lines(self):
        self.assertEqual(last(*CHAIN, change(3)), described([((0, 0), (1, 0), ["x"])], [], [0, 1]))

    def test_several_hunks_of_one_change(self):
        calls = [write(0, "m", "n"), write(0, "u", "m", "v", "w", "n", "x")]
        hunks = [(START, (0, 0), ["u"]), ((0, 0), (0, 1), ["v", "w"]), ((0, 1), END, ["x"])]
        self.assertEqual(last(*calls, change(1)), described(hunks, [], [0]))

    def test_the_lines_of_a_hunk_are_encoded(self):
        texts = [[], [256, 0, 1000000], "abcdefghijkl", ""]
        self.assertEqual(last(write(0, *texts), change(0)), described([(START, END, texts)], [], []))
        self.assertEqual(last(write(0, "", [256]), change(0)), [1, -1, 0, -2, 0, 2, 0, 1, 256, 0, 0])

    def test_a_line_that_is_deleted_bounds_a_hunk(self):
        self.assertEqual(last(write(0, "a"), write(0, "b"), change(1)),
                         described([((0, 0), END, ["b"])], [(0, 0)], [0]))

    def test_inserted_first_if_more_can_be_kept_so(self):
        self.assertEqual(last(write(0, "a", "b", "c"), write(0, "c", "a", "b"), change(1)),
                         described([(START, (0, 0), ["c"])], [(0, 2)], [0]))

    def test_lines_deleted_earlier_bound_no_hunk(self):
        calls = [write(0, "a", "b", "c"), delete(0, (0, 1)), write(0, "a", "x", "c"), change(2)]
        self.assertEqual(last(*calls), described([((0, 0), (0, 2), ["x"])], [], [0]))

    def test_none(self):
        self.assertEqual(last(write(0, "a", "b"), write(0, "b"), change(1)), [0, 1, 0, 0, 1, 0])


class Deleted(unittest.TestCase):
    def test_in_the_order_of_the_edit_steps(self):
        calls = [write(0, "c"), write(0, "a", "c"), write(0, "a", "b", "c"), write(0), change(3)]
        self.assertEqual(last(*calls), [0, 3, 1, 0, 2, 0, 0, 0, 3, 0, 1, 2])

    def test_among_lines_that_are_kept_and_inserted(self):
        calls = [write(0, "a", "b", "c", "d", "e"), write(0, "x", "b", "d", "y"), change(1)]
        hunks = [((0, 0), (0, 1), ["x"]), ((0, 4), END, ["y"])]
        self.assertEqual(last(*calls), described(hunks, [(0, 0), (0, 2), (0, 4)], [0]))

    def test_in_the_given_order(self):
        self.assertEqual(last(write(0, "a", "b", "c"), delete(0, (0, 2), (0, 0), (0, 1)), change(1)),
                         [0, 3, 0, 2, 0, 0, 0, 1, 1, 0])
        calls = [write(0, "a"), write(0, "b", "a"), write(0, "b", "a", "c")]
        self.assertEqual(last(*calls, delete(0, (2, 0), (0, 0), (1, 0)), change(3)),
                         described([], [(2, 0), (0, 0), (1, 0)], [0, 1, 2]))

    def test_none(self):
        self.assertEqual(last(write(0, "b"), write(0, "b", "c"), change(1))[-3:], [0, 1, 0])


class Dependencies(unittest.TestCase):
    def test_in_increasing_order(self):
        calls = [write(0, "c"), write(0, "c", "a"), write(0, "b", "c", "a"), write(0), change(3)]
        self.assertEqual(last(*calls)[-4:], [3, 0, 1, 2])
        calls = [write(0, "a"), write(0, "a", "b"), write(0, "a", "b", "c")]
        self.assertEqual(last(*calls, delete(0, (2, 0), (1, 0), (0, 0)), change(3))[-4:], [3, 0, 1, 2])

    def test_numbers_of_two_digits_too(self):
        calls = [write(0, *"abcdefgh"[:count]) for count in range(1, 9)]
        calls += [write(0, *"abcdefg"), write(0, *"abcdefgi"), write(0, *"abcdefg"), write(0, *"bcdefgk")]
        # Change 11 deletes a of change 0 and puts k behind g of change 6.
        self.assertEqual(last(*calls, change(11)), described([((6, 0), END, ["k"])], [(0, 0)], [0, 6]))
        calls[-2:] = [delete(0, (9, 0), (1, 0), (6, 0))]
        self.assertEqual(last(*calls, change(10))[-4:], [3, 1, 6, 9])

    def test_each_once(self):
        # Both ends of both hunks, and the deleted line, are of change 0.
        calls = [write(0, "a", "b", "c", "d"), write(0, "a", "x", "b", "y", "d"), change(1)]
        hunks = [((0, 0), (0, 1), ["x"]), ((0, 2), (0, 3), ["y"])]
        self.assertEqual(last(*calls), described(hunks, [(0, 2)], [0]))

    def test_not_those_that_are_needed_in_more_steps(self):
        self.assertEqual(last(*CHAIN, change(2)), described([((1, 0), END, ["c"])], [], [1]))

    def test_the_line_before_the_line_after_and_the_deleted_lines(self):
        calls = [write(0, "a"), write(0, "a", "d"), write(0, "a", "d", "e"), write(0, "a", "b", "d")]
        self.assertEqual(last(*calls, change(3)),
                         described([((0, 0), (1, 0), ["b"])], [(2, 0)], [0, 1, 2]))

    def test_none(self):
        self.assertEqual(last(*CONFLICT, change(1)), described([(START, END, ["b"])], [], []))


class AnyChange(unittest.TestCase):
    def test_one_of_another_branch(self):
        self.assertEqual(last(branch(0), write(1, "a"), change(0)), described([(START, END, ["a"])], [], []))

    def test_one_that_no_branch_has_any_more(self):
        self.assertEqual(last(*CHAIN, revert(0, 3), change(3)), described([((0, 0), (1, 0), ["x"])], [], [0, 1]))
        self.assertEqual(ask(*CHAIN, revert_with_dependents(0, 0), change(0), change(1))[6:],
                         [described([(START, END, ["a"])], [], []), described([((0, 0), END, ["b"])], [], [0])])

    def test_it_stays_as_it_was_made(self):
        calls = [branch(0), write(0, "a", "b"), write(0, "b"), change(1), write(1, "c"), merge(0, 1),
                 delete(0, (0, 1)), revert(0, 1), change(1)]
        expected = described([], [(0, 0)], [0])
        self.assertEqual(ask(*calls)[3:], [expected, [2], [1], [3], [3], expected])

    def test_it_changes_nothing(self):
        self.assertEqual(ask(write(0, "a"), change(0), change(0), show(0), write(0))[2:],
                         [described([(START, END, ["a"])], [], []), shown("a"), [1]])

    def test_one_that_does_not_exist(self):
        self.assertEqual(ask(change(0), write(0, "a"), change(1), change(1000000), change(0), write(0), change(1)),
                         [[-3], [0], [-3], [-3], described([(START, END, ["a"])], [], []), [1],
                          described([], [(0, 0)], [0])])

    def test_branches_do_not_matter(self):
        # There is branch 0 alone.
        calls = [write(0, "a"), write(0), write(0, "a")]
        self.assertEqual(ask(*calls, change(2), change(3))[3:], [described([(START, END, ["a"])], [], []), [-3]])


if __name__ == "__main__":
    unittest.main()
