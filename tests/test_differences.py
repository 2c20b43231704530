import itertools
import unittest

from linegrafts.differences import difference


def can_keep(old, new):
    """The length of a longest common subsequence, by trying all subsequences."""
    for count in range(min(len(old), len(new)), 0, -1):
        if set(itertools.combinations(old, count)) & set(itertools.combinations(new, count)):
            return count
    return 0


def expected(old, new):
    """The places of the deleted old lines, and the new lines by the gap they are put in."""
    place, deleted, gaps, new = 0, [], {}, list(new)
    while place < len(old) or new:
        rest = old[place:]
        if rest and new and rest[0] == new[0]:
            place, new = place + 1, new[1:]
        elif not new or rest and can_keep(rest[1:], new) >= can_keep(rest, new[1:]):
            deleted.append(place)
            place += 1
        else:
            gaps.setdefault(place, []).append(new[0])
            new = new[1:]
    return deleted, gaps


def found(old, new):
    """What the difference of two texts is, as three lists: deleted, bounds, inserted."""
    positions = [(place, 7) for place in range(len(old))]
    change = difference(positions, old, new)
    return (change.deleted, [(hunk.before, hunk.after) for hunk in change.hunks],
            [hunk.inserted for hunk in change.hunks])


class Differences(unittest.TestCase):
    def check(self, old, new):
        old, new = [[sign] for sign in old], [[sign] for sign in new]
        deleted, gaps = expected([line[0] for line in old], [line[0] for line in new])
        bounds = [(-1, 0)] + [(place, 7) for place in range(len(old))] + [(-2, 0)]
        self.assertEqual(found(old, new), (
            [(place, 7) for place in deleted],
            [(bounds[gap], bounds[gap + 1]) for gap in sorted(gaps)],
            [[[sign] for sign in gaps[gap]] for gap in sorted(gaps)],
        ), (old, new))

    def test_all_small_texts(self):
        texts = [text for count in range(5) for text in itertools.product((1, 2, 3), repeat=count)]
        for old in texts:
            for new in texts:
                self.check(old, new)

    def test_longer_texts(self):
        for old, new in (("abcabba", "cbabac"), ("xaxbxcxd", "abcdxxxx"), ("abcdefgh", "hgfedcba"),
                         ("aabbccdd", "ddccbbaa"), ("abcdabcd", "badcbadc"), ("acegbdfh", "abcdefgh")):
            signs = [ord(sign) for sign in old], [ord(sign) for sign in new]
            self.check(*signs)
            self.check(*reversed(signs))

    def test_start_and_end(self):
        self.assertEqual(found([], [[97], []]), ([], [((-1, 0), (-2, 0))], [[[97], []]]))

    def test_a_hunk_each_for_separate_gaps(self):
        self.assertEqual(found([[1], [2]], [[5], [1], [6], [7], [2], [8]]),
                         ([], [((-1, 0), (0, 7)), ((0, 7), (1, 7)), ((1, 7), (-2, 0))],
                          [[[5]], [[6], [7]], [[8]]]))

    def test_all_lines_of_one_gap_are_one_hunk(self):
        self.assertEqual(found([[1], [2]], [[5], [6]]),
                         ([(0, 7), (1, 7)], [((1, 7), (-2, 0))], [[[5], [6]]]))

    def test_the_same_text(self):
        self.assertEqual(found([[1], []], [[1], []]), ([], [], []))


if __name__ == "__main__":
    unittest.main()
