import unittest

from linegrafts.branches import answers
from sessions import CHAIN, CONFLICT, ask, blame, branch, last, lines, show, write

EXAMPLE = [1, 0, 2, 4, 1, 97, 1, 98, 2, 0, 2, 0, 1, 6, 0, 12, 0, 0, 1]
EXAMPLE_ANSWERS = [1, 0, 1, 1, 3, 1, 1, 97, 3, 0, 1, 1]

# Each call, and what is answered behind those ahead of it.
ALL_CALLS = (
    ([1, 0, 2, 4, 1, 97, 1, 98], [0]),
    ([0, 0], [1]),
    ([1, 1, 3, 6, 1, 97, 1, 120, 1, 98], [1]),
    ([2, 0, 2, 0, 1], [2]),
    ([4, 0, 1], [1]),
    ([6, 0], [2, 1, 97, 1, 120]),
    ([7, 0], [2, 0, 0, 1, 0, 0]),
    ([8, 1], [1, 0, 0, 0, 1, 1, 1, 120, 0, 1, 0]),
    ([9, 1], [2, 0, 1]),
    ([13, 0], [2, 0, 1]),
    ([12, 0, 0, 1], [0, 1, 2]),
    ([5, 0, 2], [2]),
    ([12, 0, 0, 1], [1]),
    ([3, 0, 2], [3]),
    ([11, 0, 0], [3, 0, 1, 2]),
    ([12, 0, 0, 1], [2]),
    ([10, 0, 1], [2, 0, 1]),
)


class Interface(unittest.TestCase):
    def test_the_example(self):
        self.assertEqual(answers(EXAMPLE), EXAMPLE_ANSWERS)

    def test_all_calls_in_one_list(self):
        handed, expected = [], []
        for call, answer in ALL_CALLS:
            handed += call
            expected += [len(answer)] + answer
            self.assertEqual(answers(handed), expected)
        self.assertEqual({call[0] for call, answer in ALL_CALLS}, set(range(14)))
        self.assertEqual(answers(handed), expected)

    def test_each_call_alone(self):
        alone = [[0, 0], [1, 0, 1, 1, 0], [2, 0, 2, 0, 0], [3, 0, 0], [4, 0, 0], [5, 0, 0], [6, 0], [7, 0],
                 [8, 0], [9, 0], [10, 0, 0], [11, 0, 0], [12, 0, 0, 0], [13, 0]]
        self.assertEqual([answers(call) for call in alone],
                         [[1, 1], [1, 0], [1, -3], [1, -3], [1, 0], [1, -6], [1, 0], [2, 0, 0],
                          [1, -3], [1, -3], [1, -3], [1, -6], [1, -3], [1, 0]])

    def test_each_call_but_change_and_requirements_on_a_missing_branch(self):
        row = [1, 9, 0, 0, 2, 9, 0] + [3, 9, 0, 4, 9, 0, 4, 0, 9, 5, 9, 0, 0, 9, 6, 9, 7, 9]
        row += [10, 9, 0, 11, 9, 0, 12, 9, 0, 0, 13, 9]
        self.assertEqual(answers([1, 0, 1, 2, 1, 97] + row), [1, 0] + [1, -2] * 13)

    def test_an_answer_to_each_call(self):
        self.assertEqual(answers([6, 0]), [1, 0])
        self.assertEqual(answers([0, 0, 6, 1, 4, 0, 1, 5, 0, 3, 3, 1, 3, 6, 2]),
                         [1, 1, 1, 0, 1, 0, 1, -6, 1, -3, 1, -2])

    def test_an_error_with_more_fields(self):
        self.assertEqual(answers([0, 0, 1, 0, 1, 2, 1, 97, 1, 0, 2, 4, 1, 97, 1, 98, 3, 1, 1, 5, 0, 0]),
                         [1, 1, 1, 0, 1, 1, 3, -4, 1, 0, 3, -4, 1, 1])
        self.assertEqual(answers([number for call in CONFLICT + [show(0)] for number in call])[-3:],
                         [2, -5, 1])

    def test_empty_rows(self):
        self.assertEqual(answers([1, 0, 0, 0, 2, 0, 0, 6, 0]), [1, -6, 1, -3, 1, 0])

    def test_rows_of_398_numbers(self):
        self.assertEqual(ask([1, 0, 398, 398] + [0] * 398, [1, 0, 1, 398, 397] + [7] * 397,
                             [2, 0, 398] + [0] * 398, [2, 0, 398] + list(range(398)), show(0)),
                         [[-1], [-1], [-3], [-3], [0]])

    def test_nothing_is_kept(self):
        self.assertEqual(answers(EXAMPLE), answers(EXAMPLE))
        answers([0, 0, 0, 0, 0, 0, 0, 0])
        self.assertEqual(answers([6, 1]), [1, -2])
        self.assertEqual(answers([8, 0, 9, 0, 7, 0]), [1, -3, 1, -3, 2, 0, 0])

    def test_a_second_list_is_answered_as_if_it_were_the_first(self):
        handed = [number for call, answer in ALL_CALLS for number in call]
        first = answers(handed)
        answers([number for call in CHAIN for number in call])
        self.assertEqual(answers(handed), first)

    def test_an_earlier_answer_stays(self):
        first = answers(EXAMPLE)
        answers(EXAMPLE)
        self.assertEqual(first, EXAMPLE_ANSWERS)

    def test_what_is_handed_in_stays_as_it_was(self):
        every = [number for call, answer in ALL_CALLS for number in call]
        for handed in (list(EXAMPLE), every, [6, 7], [1, 0, 9, 9] + [0] * 9, [2, 0, 4, 0, 0, 0, 0]):
            before = list(handed)
            answers(handed)
            self.assertEqual(handed, before)

    def test_what_is_given_back_is_a_list_of_whole_numbers(self):
        every = [number for call, answer in ALL_CALLS for number in call]
        for calls in (EXAMPLE, every, [0, 0, 4, 0, 1, 1, 0, 9, 9] + [0] * 9, [3, 0, 0, 5, 0, 0]):
            given = answers(calls)
            self.assertIs(list, given.__class__)
            self.assertEqual({number.__class__ for number in given}, {int})

    def test_an_error_leaves_the_numbers_free(self):
        self.assertEqual(ask(write(0), branch(1), write(0, "a"), branch(0)), [[-6], [-2], [0], [1]])

    def test_thirty_calls_with_many_lines(self):
        texts = [[chr(97 + number) + str(line) for line in range(8)] for number in range(10)]
        calls = [branch(0) for number in range(4)]
        calls += [write(number % 5, *texts[number]) for number in range(10)]
        calls += [[4, 0, 1], [4, 0, 2], [4, 0, 3], [4, 0, 4]] + [show(0)] * 12
        # Of each branch the eight lines that were written last are visible.
        self.assertEqual(ask(*calls)[18:], [[-5, 10 * 64]] * 12)
        told = last(*calls[:-12], lines(0))
        self.assertEqual((len(told), told[0], told[81]), (2 + 2 * 40 + 4 * 640, 40, 640))
        self.assertEqual(ask(*calls[:-12], *[blame(0)] * 12)[18:], [[-5, 640]] * 12)

    def test_thirty_calls_of_all_kinds(self):
        calls = [call for call, answer in ALL_CALLS] + [[8, 2], [9, 2], [10, 1, 2], [11, 1, 0], [7, 1], [6, 1],
                                                         [13, 1], [12, 1, 0, 0], [12, 1, 0, 2], [4, 1, 0], [13, 1],
                                                         [7, 1], [0, 1]]
        self.assertEqual(len(calls), 30)
        self.assertEqual(ask(*calls)[17:], [[0, 1, 0, 1, 1, 0], [2, 0, 2], [1, 2], [3, 0, 1, 2], [0, 0], [0], [0],
                                            [2], [-3], [2], [3, 0, 1, 0], [3, 0, 0, 1, 0, 0, 1, 0], [2]])

    def test_numbers_up_to_a_million(self):
        million = 1000000
        calls = [write(0, [million]), *[[operation, million] for operation in (0, 6, 7, 8, 9, 13)]]
        calls += [[operation, 0, million] for operation in (3, 4, 5, 10, 11)]
        calls += [[operation, million, million] for operation in (3, 4, 5, 10, 11)]
        calls += [[12, 0, 0, million], [12, 0, million, 0], [12, million, million, million]]
        calls += [[2, 0, 2, million, million], [2, million, 2, 0, 0], [1, million, 1, 2, 1, million]]
        calls += [[8, 0], [7, 0], [6, 0]]
        self.assertEqual(ask(*calls), [
            [0], [-2], [-2], [-2], [-3], [-3], [-2], [-3], [-2], [-6], [-3], [-6], *[[-2]] * 5,
            [-3], [-3], [-2], [-3], [-2], [-2], [1, -1, 0, -2, 0, 1, 1, million, 0, 0], [1, 0, 0, 0],
            [1, 1, million]])


if __name__ == "__main__":
    unittest.main()
