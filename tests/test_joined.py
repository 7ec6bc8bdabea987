import unittest

from tests.helper import Paper, ask_of, groups, joined, rows_of_folds


def joints(folds, sheets):
    return groups(ask_of(folds, sheets, 1, joined())[0], 3)


class HandMadeJoints(unittest.TestCase):
    def test_no_folds(self):
        for sheets in (1, 2, 3, 4):
            self.assertEqual(ask_of([], sheets, 1, joined()), [[0]])

    def test_each_edge(self):
        for fold in range(4):
            self.assertEqual(ask_of([fold], 1, 1, joined()), [[1, 0, 1, fold]])

    def test_two_folds(self):
        self.assertEqual(joints([2, 0], 1), [(0, 1, 2), (0, 3, 0), (1, 2, 0), (2, 3, 2)])
        self.assertEqual(joints([0, 2], 1), [(0, 1, 0), (0, 3, 2), (1, 2, 2), (2, 3, 0)])
        self.assertEqual(joints([1, 3], 1), [(0, 1, 1), (0, 3, 3), (1, 2, 3), (2, 3, 1)])
        self.assertEqual(joints([3, 1], 1), [(0, 1, 3), (0, 3, 1), (1, 2, 1), (2, 3, 3)])

    def test_two_folds_along_one_line(self):
        self.assertEqual(joints([0, 0], 1), [(0, 1, 1), (0, 3, 0), (1, 2, 0)])
        self.assertEqual(joints([0, 1], 1), [(0, 3, 1), (1, 2, 1), (2, 3, 0)])
        self.assertEqual(joints([2, 3], 1), [(0, 3, 3), (1, 2, 3), (2, 3, 2)])

    def test_several_sheets(self):
        self.assertEqual(joints([0], 2), [(0, 3, 0), (1, 2, 0)])
        self.assertEqual(joints([3], 3), [(0, 5, 3), (1, 4, 3), (2, 3, 3)])
        self.assertEqual(joints([2, 0], 2), [
            (0, 3, 2), (0, 7, 0), (1, 2, 2), (1, 6, 0), (2, 5, 0), (3, 4, 0), (4, 7, 2), (5, 6, 2),
        ])

    def test_pages_change_nothing(self):
        for pages in (1, 8, 2000):
            self.assertEqual(ask_of([2, 0], 1, pages, joined()), [[4, 0, 1, 2, 0, 3, 0, 1, 2, 0, 2, 3, 2]])


class JointsAgainstPaper(unittest.TestCase):
    def test_every_row_of_folds(self):
        for folds in rows_of_folds(5):
            self.assertEqual(joints(folds, 1), Paper(folds, 1).joints(), folds)

    def test_several_sheets(self):
        for folds in rows_of_folds(3):
            for sheets in (2, 3, 4):
                self.assertEqual(joints(folds, sheets), Paper(folds, sheets).joints(), (folds, sheets))


class WhatTheWordsSayOfJoints(unittest.TestCase):
    def cases(self):
        for folds in rows_of_folds(4):
            for sheets in (1, 3):
                yield folds, sheets, joints(folds, sheets)
        for folds in ([0, 2, 1, 3, 0], [3, 3, 0, 0, 2], [1, 1, 1, 1, 1], [2, 0, 3, 1, 3]):
            yield folds, 4, joints(folds, 4)

    def test_order(self):
        for folds, sheets, found in self.cases():
            self.assertEqual(found, sorted(found), (folds, sheets))
            self.assertEqual(len(set(joint[:2] for joint in found)), len(found), (folds, sheets))
            self.assertTrue(all(upper < lower for upper, lower, edge in found), (folds, sheets))

    def test_at_the_spine_as_far_from_the_top_as_from_the_bottom(self):
        for folds, sheets, found in self.cases():
            leaves = sheets * 2 ** len(folds)
            at_spine = [joint for joint in found if folds and joint[2] == folds[-1]]
            for upper, lower, edge in at_spine:
                self.assertEqual(upper + lower, leaves - 1, (folds, sheets))
            bound = sorted(leaf for joint in at_spine for leaf in joint[:2])
            self.assertEqual(bound, list(range(leaves)) if folds else [], (folds, sheets))


if __name__ == "__main__":
    unittest.main()
