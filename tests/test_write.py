import unittest

from sessions import CONFLICT, apply, ask, branch, delete, last, many_changes, merge, revert, show
from sessions import shown, write


def needs(*texts):
    """Write the texts one behind another; give what the last change depends on."""
    calls = [write(0, *text) for text in texts]
    answer = last(branch(0), *calls, apply(1, len(texts) - 1))
    return answer[2:] if answer[0] == -4 else []


class WrittenTexts(unittest.TestCase):
    def test_changes_are_numbered_over_all_branches(self):
        self.assertEqual(ask(write(0, "a"), branch(0), write(1, "b"), write(0, "c"), write(1)),
                         [[0], [1], [1], [2], [3]])

    def test_the_text_is_what_was_written(self):
        texts = ["abc", "acb", "b", "", "bbab", "abab", "cab", "xaybz", "z", "ba", "ab", "aab"]
        for new in texts:
            for old in texts:
                if old != new:
                    calls = [write(0, "q"), write(0, *old), write(0, *new), show(0)]
                    self.assertEqual(last(*calls), shown(*new), (old, new))

    def test_it_adds_the_change_to_its_own_branch_alone(self):
        self.assertEqual(ask(branch(0), write(1, "a"), show(0), show(1))[2:], [shown(), shown("a")])

    def test_lines_without_bytes(self):
        self.assertEqual(ask(write(0, ""), show(0)), [[0], [1, 0]])
        self.assertEqual(ask(write(0, "", "a", ""), show(0)), [[0], [3, 0, 1, 97, 0]])
        self.assertEqual(ask(write(0, ""), write(0, "", ""), show(0)), [[0], [1], [2, 0, 0]])

    def test_bytes_above_255(self):
        lines = [[256, 0, 1000000], [512]]
        self.assertEqual(ask(write(0, *lines), show(0)), [[0], [2, 3, 256, 0, 1000000, 1, 512]])
        self.assertEqual(last(write(0, [256]), write(0, [0])), [1])
        self.assertEqual(last(write(0, [256]), write(0, [256])), [-6])


class EditSteps(unittest.TestCase):
    def test_a_line_at_the_start(self):
        self.assertEqual(needs("b", "bc", "abc"), [0])

    def test_a_line_in_between(self):
        self.assertEqual(needs("a", "ac", "abc"), [0, 1])

    def test_a_line_at_the_end(self):
        self.assertEqual(needs("a", "ab", "abc"), [1])

    def test_lines_into_an_empty_text(self):
        self.assertEqual(needs("abc"), [])
        self.assertEqual(needs("a", "", "b"), [])

    def test_a_deleted_line(self):
        self.assertEqual(needs("a", "ab", "b"), [0])
        self.assertEqual(needs("a", "ab", "a"), [1])

    def test_several_hunks(self):
        # 0 wrote b, 1 c ahead of it, 2 d behind it: all but the start and the end.
        self.assertEqual(needs("b", "cb", "cbd", "xcbdy"), [1, 2])
        self.assertEqual(needs("b", "cb", "cbd", "xcyzbd"), [0, 1])

    def test_lines_inserted_together_stay_in_order(self):
        calls = [write(0, "a", "d"), branch(0), write(0, "a", "b", "c", "d"), write(1, "a", "d", "e")]
        self.assertEqual(last(*calls, merge(1, 0), show(1)), shown("a", "b", "c", "d", "e"))

    def test_hunks_of_one_change_number_their_lines_on(self):
        calls = [write(0, "m"), write(0, "x", "y", "m", "z")]
        self.assertEqual(last(*calls, delete(0, (1, 2)), show(0)), shown("x", "y", "m"))
        self.assertEqual(last(*calls, delete(0, (1, 1)), show(0)), shown("x", "m", "z"))

    def test_a_tie_deletes_first(self):
        # a and b are deleted, then x is put behind b: so y, between a and b, precedes x.
        calls = [write(0, "a", "b"), branch(0), write(0, "x"), write(1, "a", "y", "b"), merge(0, 1)]
        self.assertEqual(last(*calls, show(0)), shown("y", "x"))

    def test_a_tie_with_lines_that_can_be_kept_deletes_first(self):
        calls = [write(0, "a", "b"), write(0, "b", "a")]
        self.assertEqual(last(*calls, delete(0, (0, 0))), [-3])
        self.assertEqual(last(*calls, delete(0, (0, 1)), show(0)), shown("a"))
        self.assertEqual(last(*calls, delete(0, (1, 0)), show(0)), shown("b"))

    def test_inserts_if_more_lines_can_be_kept_so(self):
        calls = [write(0, "a", "b", "c"), write(0, "c", "a", "b")]
        self.assertEqual(last(*calls, delete(0, (0, 2))), [-3])
        self.assertEqual(last(*calls, delete(0, (0, 0), (0, 1)), show(0)), shown("c"))

    def test_deletes_if_more_lines_can_be_kept_so(self):
        calls = [write(0, "c", "a", "b"), write(0, "a", "b", "c")]
        self.assertEqual(last(*calls, delete(0, (0, 0))), [-3])
        self.assertEqual(last(*calls, delete(0, (0, 1), (0, 2)), show(0)), shown("c"))

    def test_counts_a_longest_common_subsequence(self):
        # Behind a deleted x, a and b can be kept; behind an inserted p, q alone.
        calls = [write(0, "x", "a", "q", "b"), write(0, "p", "a", "b")]
        self.assertEqual(last(*calls, delete(0, (0, 1), (0, 3)), show(0)), shown("p"))
        self.assertEqual(last(*calls, delete(0, (0, 2))), [-3])

    def test_equal_next_lines_are_kept(self):
        calls = [write(0, "a", "a"), write(0, "a")]
        self.assertEqual(last(*calls, delete(0, (0, 1))), [-3])
        self.assertEqual(last(*calls, delete(0, (0, 0)), show(0)), shown())

    def test_deleted_lines_bound_a_hunk_too(self):
        # b gives way to x, which lies between b and c.
        calls = [write(0, "a"), write(0, "a", "c"), write(0, "a", "b", "c"), write(0, "a", "x", "c")]
        self.assertEqual(last(branch(0), *calls, apply(1, 3)), [-4, 2, 1, 2])

    def test_lines_of_a_merged_text(self):
        calls = [write(0, "m"), branch(0), write(0, "a", "m"), write(1, "m", "z"), merge(0, 1)]
        self.assertEqual(last(*calls, write(0, "a", "m", "y", "z"), show(0)), shown("a", "m", "y", "z"))
        # y lies between m of change 0 and z of change 2.
        self.assertEqual(last(*calls, write(0, "a", "m", "y", "z"), revert(0, 2)), [-4, 1, 3])
        self.assertEqual(last(*calls, write(0, "a", "m", "y", "z"), revert(0, 1)), [3])


class WriteErrors(unittest.TestCase):
    def test_eight_lines_of_twelve_bytes_are_allowed(self):
        lines = ["abcdefghijkl"] * 8
        self.assertEqual(ask(write(0, *lines), show(0)), [[0], shown(*lines)])

    def test_nine_lines(self):
        self.assertEqual(ask(write(0, *"abcdefghi"), show(0)), [[-1], shown()])
        self.assertEqual(last(write(0, *[""] * 9)), [-1])
        self.assertEqual(last(write(0, *[""] * 398)), [-1])

    def test_thirteen_bytes(self):
        for lines in (["abcdefghijklm"], ["a", "abcdefghijklm"], ["abcdefghijklm", ""]):
            self.assertEqual(ask(write(0, *lines), show(0)), [[-1], shown()])

    def test_conflicts(self):
        self.assertEqual(ask(*CONFLICT, write(0, "c"), show(0), write(1, "c"))[4:],
                         [[-5], [-5, 1], [2]])

    def test_the_same_text(self):
        self.assertEqual(ask(write(0, "a", "b"), write(0, "a", "b"), write(0, "b")), [[0], [-6], [1]])

    def test_no_line_on_an_empty_text(self):
        self.assertEqual(ask(write(0), write(0, "a"), write(0), write(0)), [[-6], [0], [1], [-6]])

    def test_a_thirteenth_change(self):
        calls = many_changes(12)
        self.assertEqual(ask(*calls)[-1], [11])
        self.assertEqual(ask(*calls, write(0, "b"), show(0))[12:], [[-8], shown()])
        self.assertEqual(last(*calls, revert(0, 11), write(0)), [-8])

    def test_a_missing_branch_comes_first(self):
        self.assertEqual(ask(write(1, *"abcdefghi"), write(1, "a"), write(1000000)), [[-2]] * 3)
        self.assertEqual(last(*many_changes(12), write(1, "b")), [-2])

    def test_limits_come_before_conflicts(self):
        self.assertEqual(last(*CONFLICT, write(0, *"abcdefghi")), [-1])
        self.assertEqual(last(*CONFLICT, write(0, "abcdefghijklm")), [-1])

    def test_limits_come_before_the_same_text(self):
        calls = [write(0, "m"), branch(0), write(0, *"abcdm"), write(1, *"mwxyz"), merge(0, 1)]
        self.assertEqual(last(*calls, show(0)), shown(*"abcdmwxyz"))
        self.assertEqual(last(*calls, write(0, *"abcdmwxyz")), [-1])

    def test_limits_come_before_too_many_changes(self):
        self.assertEqual(last(*many_changes(12), write(0, *"abcdefghi")), [-1])

    def test_conflicts_come_before_the_same_lines(self):
        self.assertEqual(last(*CONFLICT, write(0, "a", "b")), [-5])

    def test_conflicts_come_before_too_many_changes(self):
        calls = [branch(0), *many_changes(11), write(1, "b"), merge(0, 1)]
        self.assertEqual(ask(*calls, write(0, "c"))[-3:], [[11], [1], [-5]])
        self.assertEqual(last(*calls, revert(0, 10), write(0, "c")), [-8])

    def test_the_same_text_comes_before_too_many_changes(self):
        self.assertEqual(last(*many_changes(12), write(0)), [-6])


if __name__ == "__main__":
    unittest.main()
