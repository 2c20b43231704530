import unittest

from sessions import CHAIN, apply, apply_with_requirements, ask, branch, delete, last, lines, listed, members
from sessions import merge, revert, revert_with_dependents, show, shown, write


class ApplyWithRequirements(unittest.TestCase):
    def test_all_requirements_are_added(self):
        calls = [*CHAIN, apply_with_requirements(1, 3)]
        self.assertEqual(ask(*calls, show(1))[5:], [[3, 0, 1, 3], shown("a", "x", "b")])
        self.assertEqual(members(1, *calls), [0, 1, 3])

    def test_over_several_steps(self):
        calls = [*CHAIN, apply_with_requirements(1, 2)]
        self.assertEqual(ask(*calls, show(1))[5:], [[3, 0, 1, 2], shown("a", "b", "c")])

    def test_a_change_that_needs_no_other(self):
        self.assertEqual(ask(*CHAIN, apply_with_requirements(1, 0), show(1))[5:], [[1, 0], shown("a")])

    def test_only_those_that_were_added_are_told(self):
        calls = [*CHAIN, apply_with_requirements(1, 1), apply_with_requirements(1, 3)]
        self.assertEqual(last(*calls), [1, 3])
        self.assertEqual(members(1, *calls), [0, 1, 3])
        self.assertEqual(last(*CHAIN, apply(1, 0), apply_with_requirements(1, 2)), [2, 1, 2])

    def test_changes_that_are_not_needed_stay_out_and_in(self):
        calls = [*CHAIN, write(1, "q"), apply_with_requirements(1, 1)]
        self.assertEqual(last(*calls), [2, 0, 1])
        self.assertEqual(members(1, *calls), [0, 1, 4])

    def test_a_lower_change_that_is_added_later(self):
        calls = [*CHAIN, apply_with_requirements(1, 3), apply_with_requirements(1, 2)]
        self.assertEqual(ask(*calls, revert(1, 1), show(1))[6:],
                         [[1, 2], [-4, 2, 2, 3], shown("a", "x", "b", "c")])

    def test_a_change_that_deletes(self):
        calls = [branch(0), write(0, "a"), write(0, "a", "b"), delete(0, (1, 0)), apply_with_requirements(1, 2)]
        self.assertEqual(ask(*calls, show(1))[4:], [[3, 0, 1, 2], shown("a")])

    def test_changes_that_no_branch_has_any_more(self):
        calls = [*CHAIN, revert_with_dependents(0, 0), apply_with_requirements(0, 3)]
        self.assertEqual(ask(*calls, show(0))[6:], [[3, 0, 1, 3], shown("a", "x", "b")])

    def test_it_may_bring_conflicts(self):
        calls = [branch(0), write(0, "a"), write(0, "b", "a"), write(1, "c"), apply_with_requirements(1, 1)]
        self.assertEqual(ask(*calls, lines(1))[4:],
                         [[2, 0, 1], listed([(1, 0), (0, 0), (2, 0)], [(1, 0), (2, 0)], [(0, 0), (2, 0)])])

    def test_other_branches_stay_as_they_were(self):
        calls = [*CHAIN, branch(1), apply_with_requirements(1, 2)]
        self.assertEqual([members(number, *calls) for number in range(3)], [[0, 1, 2, 3], [0, 1, 2], []])

    def test_a_change_that_does_not_exist(self):
        self.assertEqual(ask(apply_with_requirements(0, 0), write(0, "a"), apply_with_requirements(0, 1),
                             apply_with_requirements(0, 1000000), show(0), write(0)),
                         [[-3], [0], [-3], [-3], shown("a"), [1]])

    def test_a_change_that_the_branch_has(self):
        calls = [*CHAIN, apply_with_requirements(0, 3), apply_with_requirements(0, 0)]
        self.assertEqual(ask(*calls, show(0))[5:], [[-6], [-6], shown("a", "x", "b", "c")])
        self.assertEqual(members(0, *calls), [0, 1, 2, 3])
        calls = [*CHAIN, apply_with_requirements(1, 1), apply_with_requirements(1, 1), apply_with_requirements(1, 0)]
        self.assertEqual(ask(*calls, show(1))[6:], [[-6], [-6], shown("a", "b")])

    def test_a_missing_branch_comes_first(self):
        self.assertEqual(ask(apply_with_requirements(1, 0), *CHAIN, apply_with_requirements(2, 0),
                             apply_with_requirements(2, 4), apply_with_requirements(1000000, 1000000), branch(1),
                             show(2))[6:], [[-2], [-2], [-2], [2], shown()])
        self.assertEqual(ask(apply_with_requirements(1, 0))[0], [-2])


class RevertWithDependents(unittest.TestCase):
    def test_all_dependents_are_removed(self):
        calls = [*CHAIN, revert_with_dependents(0, 1)]
        self.assertEqual(ask(*calls, show(0))[5:], [[3, 1, 2, 3], shown("a")])
        self.assertEqual(members(0, *calls), [0])

    def test_over_several_steps(self):
        # 2 stands on 1 alone, and 1 on 0.
        calls = [*CHAIN[:4], revert_with_dependents(0, 0)]
        self.assertEqual(ask(*calls, show(0))[4:], [[3, 0, 1, 2], shown()])
        calls = [write(0, [number]) for number in range(12)] + [revert_with_dependents(0, 2)]
        self.assertEqual(ask(*calls, show(0))[12:], [[10] + list(range(2, 12)), shown([1])])
        self.assertEqual(members(0, *calls), [0, 1])

    def test_a_change_on_which_none_depends(self):
        self.assertEqual(ask(*CHAIN, revert_with_dependents(0, 3), show(0))[5:], [[1, 3], shown("a", "b", "c")])

    def test_changes_that_do_not_depend_on_it_stay(self):
        calls = [*CHAIN, revert_with_dependents(0, 2)]
        self.assertEqual(ask(*calls, show(0))[5:], [[1, 2], shown("a", "x", "b")])
        self.assertEqual(members(0, *calls), [0, 1, 3])

    def test_dependents_that_the_branch_does_not_have_are_not_told(self):
        self.assertEqual(last(*CHAIN, revert(0, 2), revert_with_dependents(0, 1)), [2, 1, 3])
        calls = [*CHAIN, apply_with_requirements(1, 1), revert_with_dependents(1, 0)]
        self.assertEqual(ask(*calls, show(1))[6:], [[2, 0, 1], shown()])

    def test_lines_that_dependents_deleted_are_visible_again(self):
        calls = [write(0, "a"), write(0, "a", "b"), delete(0, (0, 0), (1, 0)), revert_with_dependents(0, 1)]
        self.assertEqual(ask(*calls, show(0))[3:], [[2, 1, 2], shown("a")])

    def test_other_branches_stay_as_they_were(self):
        calls = [*CHAIN, merge(1, 0), branch(0), revert_with_dependents(1, 1)]
        self.assertEqual(ask(*calls, show(0), show(1), show(2))[7:],
                         [[3, 1, 2, 3], shown("a", "x", "b", "c"), shown("a"), shown("a", "x", "b", "c")])
        self.assertEqual([members(number, *calls) for number in range(3)], [[0, 1, 2, 3], [0], [0, 1, 2, 3]])

    def test_their_numbers_are_not_given_again(self):
        self.assertEqual(ask(*CHAIN, revert_with_dependents(0, 0), write(0, "a"))[6:], [[4]])

    def test_they_can_be_applied_again(self):
        calls = [*CHAIN, revert_with_dependents(0, 1), apply(0, 1), apply(0, 3), apply(0, 2), show(0)]
        self.assertEqual(ask(*calls)[6:], [[2], [3], [4], shown("a", "x", "b", "c")])

    def test_a_change_that_the_branch_does_not_have(self):
        calls = [*CHAIN, revert_with_dependents(1, 0), revert(0, 3), revert_with_dependents(0, 3)]
        self.assertEqual(ask(*calls, show(0), show(1))[5:], [[-6], [3], [-6], shown("a", "b", "c"), shown()])
        self.assertEqual(members(0, *calls), [0, 1, 2])
        # Branch 1 has a requirement of change 1, but not change 1 itself.
        calls = [*CHAIN, apply(1, 0), revert_with_dependents(1, 1)]
        self.assertEqual(ask(*calls, show(1))[6:], [[-6], shown("a")])

    def test_a_change_that_does_not_exist(self):
        self.assertEqual(ask(revert_with_dependents(0, 0), *CHAIN, revert_with_dependents(0, 4),
                             revert_with_dependents(0, 1000000), show(0), write(0))[6:],
                         [[-6], [-6], shown("a", "x", "b", "c"), [4]])
        self.assertEqual(ask(revert_with_dependents(0, 0)), [[-6]])

    def test_a_missing_branch_comes_first(self):
        self.assertEqual(ask(*CHAIN, revert_with_dependents(2, 0), revert_with_dependents(2, 9),
                             revert_with_dependents(1000000, 0), show(0), branch(0), show(2))[5:],
                         [[-2], [-2], [-2], shown("a", "x", "b", "c"), [2], shown("a", "x", "b", "c")])


if __name__ == "__main__":
    unittest.main()
