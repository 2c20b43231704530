import unittest

from linegrafts.branches import answers
from sessions import CONFLICT, ask, branch, show, write

EXAMPLE = [1, 0, 2, 4, 1, 97, 1, 98, 2, 0, 2, 0, 1, 6, 0]


class Interface(unittest.TestCase):
    def test_the_example(self):
        self.assertEqual(answers(EXAMPLE), [1, 0, 1, 1, 3, 1, 1, 97])

    def test_an_answer_to_each_call(self):
        self.assertEqual(answers([6, 0]), [1, 0])
        self.assertEqual(answers([0, 0, 6, 1, 4, 0, 1, 5, 0, 3, 3, 1, 3, 6, 2]),
                         [1, 1, 1, 0, 1, 0, 1, -6, 1, -3, 1, -2])

    def test_an_error_with_more_fields(self):
        self.assertEqual(answers([0, 0, 1, 0, 1, 2, 1, 97, 1, 0, 2, 4, 1, 97, 1, 98, 3, 1, 1, 5, 0, 0]),
                         [1, 1, 1, 0, 1, 1, 3, -4, 1, 0, 3, -4, 1, 1])
        self.assertEqual(answers([number for call in CONFLICT + [show(0)] for number in call])[-3:],
                         [2, -5, 1])

    def test_empty_rows(self):
        self.assertEqual(answers([1, 0, 0, 0, 2, 0, 0, 6, 0]), [1, -6, 1, -3, 1, 0])

    def test_nothing_is_kept(self):
        self.assertEqual(answers(EXAMPLE), answers(EXAMPLE))
        answers([0, 0, 0, 0, 0, 0, 0, 0])
        self.assertEqual(answers([6, 1]), [1, -2])

    def test_an_earlier_answer_stays(self):
        first = answers(EXAMPLE)
        answers(EXAMPLE)
        self.assertEqual(first, [1, 0, 1, 1, 3, 1, 1, 97])

    def test_what_is_handed_in_stays_as_it_was(self):
        for handed in (list(EXAMPLE), [6, 7], [1, 0, 9, 9] + [0] * 9, [2, 0, 4, 0, 0, 0, 0]):
            before = list(handed)
            answers(handed)
            self.assertEqual(handed, before)

    def test_what_is_given_back_is_a_list_of_whole_numbers(self):
        for calls in (EXAMPLE, [0, 0, 4, 0, 1, 1, 0, 9, 9] + [0] * 9, [3, 0, 0, 5, 0, 0]):
            given = answers(calls)
            self.assertIs(list, given.__class__)
            self.assertEqual({number.__class__ for number in given}, {int})

    def test_an_error_leaves_the_numbers_free(self):
        self.assertEqual(ask(write(0), branch(1), write(0, "a"), branch(0)), [[-6], [-2], [0], [1]])

    def test_thirty_calls_with_many_lines(self):
        texts = [[chr(97 + number) + str(line) for line in range(8)] for number in range(10)]
        calls = [branch(0) for number in range(4)]
        calls += [write(number % 5, *texts[number]) for number in range(10)]
        calls += [[4, 0, 1], [4, 0, 2], [4, 0, 3], [4, 0, 4]] + [show(0)] * 12
        # Of each branch the eight lines that were written last are visible.
        self.assertEqual(ask(*calls)[18:], [[-5, 10 * 64]] * 12)


if __name__ == "__main__":
    unittest.main()
