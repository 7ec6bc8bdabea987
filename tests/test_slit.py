import unittest

from tests.helper import Paper, ask_of, groups, joined, rows_of_folds, slit


def slits(folds, sheets):
    return groups(ask_of(folds, sheets, 1, slit())[0], 3)


class HandMadeSlits(unittest.TestCase):
    def test_no_folds(self):
        for sheets in (1, 2, 3, 4):
            self.assertEqual(ask_of([], sheets, 1, slit()), [[0]], sheets)

    def test_one_fold_lies_at_the_spine(self):
        for fold in range(4):
            for sheets in (1, 4):
                self.assertEqual(ask_of([fold], sheets, 1, slit()), [[0]], (fold, sheets))

    def test_each_last_fold(self):
        self.assertEqual(slits([2, 0], 1), [(0, 1, 2), (2, 3, 2)])
        self.assertEqual(slits([3, 1], 1), [(0, 1, 3), (2, 3, 3)])
        self.assertEqual(slits([0, 2], 1), [(0, 1, 0), (2, 3, 0)])
        self.assertEqual(slits([1, 3], 1), [(0, 1, 1), (2, 3, 1)])

    def test_two_folds_along_one_line(self):
        self.assertEqual(slits([0, 0], 1), [(0, 1, 1)])
        self.assertEqual(slits([1, 1], 1), [(0, 1, 0)])
        self.assertEqual(slits([0, 1], 1), [(2, 3, 0)])
        self.assertEqual(slits([1, 0], 1), [(2, 3, 1)])
        self.assertEqual(slits([2, 2], 1), [(0, 1, 3)])
        self.assertEqual(slits([3, 3], 1), [(0, 1, 2)])
        self.assertEqual(slits([2, 3], 1), [(2, 3, 2)])
        self.assertEqual(slits([3, 2], 1), [(2, 3, 3)])

    def test_octavo(self):
        # Leaves 0 to 3 have the rows and columns 1 0, 1 3, 0 3, 0 0; leaves 4 to 7 have 0 1, 0 2, 1 2, 1 1.
        self.assertEqual(slits([1, 2, 0], 1), [(0, 3, 2), (1, 2, 2), (4, 5, 1), (4, 7, 2), (5, 6, 2), (6, 7, 1)])

    def test_several_sheets(self):
        self.assertEqual(slits([2, 0], 2), [(0, 3, 2), (1, 2, 2), (4, 7, 2), (5, 6, 2)])
        self.assertEqual(slits([0, 0], 2), [(0, 3, 1), (1, 2, 1)])
        self.assertEqual(slits([0, 1], 3), [(6, 11, 0), (7, 10, 0), (8, 9, 0)])

    def test_pages_change_nothing(self):
        for pages in (1, 8, 2000):
            self.assertEqual(ask_of([2, 0], 1, pages, slit()), [[2, 0, 1, 2, 2, 3, 2]], pages)


class SlitsAgainstJoined(unittest.TestCase):
    def cases(self):
        for folds in rows_of_folds(4):
            for sheets in (1, 3):
                yield folds, sheets
        for folds in rows_of_folds(5):
            yield folds, 1 + sum(folds) % 4

    def test_joined_less_the_spine_in_the_same_order(self):
        for folds, sheets in self.cases():
            every, some = ask_of(folds, sheets, 1, joined(), slit())
            spine = folds[-1] if folds else 0
            expected = [joint for joint in groups(every, 3) if joint[2] != spine]
            self.assertEqual(groups(some, 3), expected, (folds, sheets))

    def test_what_is_left_binds_each_leaf_to_just_one(self):
        for folds, sheets in self.cases():
            every, some = ask_of(folds, sheets, 1, joined(), slit())
            kept = sorted(set(groups(every, 3)) - set(groups(some, 3)))
            leaves = sheets * 2 ** len(folds)
            expected = [(leaf, leaves - 1 - leaf) for leaf in range(leaves // 2)] if folds else []
            self.assertEqual([joint[:2] for joint in kept], expected, (folds, sheets))


class SlitsAgainstPaper(unittest.TestCase):
    def test_every_row_of_folds(self):
        for folds in rows_of_folds(5):
            paper = Paper(folds, 1)
            expected = [joint for joint in paper.joints() if joint[2] != paper.spine]
            self.assertEqual(slits(folds, 1), expected, folds)


if __name__ == "__main__":
    unittest.main()
