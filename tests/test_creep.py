import unittest

from tests.helper import HIGHEST, ask_of, creep, rows_of_folds


def creeps(folds, sheets, thickness):
    leaves = sheets * 2 ** len(folds)
    return ask_of(folds, sheets, 1, *[creep(leaf, thickness) for leaf in range(leaves)])


class HandMadeCreeps(unittest.TestCase):
    def test_one_sheet_without_folds(self):
        self.assertEqual(creeps([], 1, 5), [[0]])

    def test_an_even_number_of_leaves(self):
        self.assertEqual(creeps([], 2, 5), [[0], [0]])
        self.assertEqual(creeps([], 4, 5), [[0], [5], [5], [0]])
        self.assertEqual(creeps([0], 1, 5), [[0], [0]])
        self.assertEqual(creeps([2, 0], 1, 7), [[0], [7], [7], [0]])
        self.assertEqual(creeps([3], 3, 2), [[0], [2], [4], [4], [2], [0]])
        self.assertEqual(creeps([1, 2, 0], 1, 10), [[0], [10], [20], [30], [30], [20], [10], [0]])

    def test_an_odd_number_of_leaves(self):
        self.assertEqual(creeps([], 3, 5), [[0], [5], [0]])

    def test_the_thickest_section(self):
        found = ask_of([0, 1, 2, 3, 0], 4, 2000, *[creep(leaf, 3) for leaf in (0, 1, 62, 63, 64, 65, 126, 127)])
        self.assertEqual(found, [[0], [3], [186], [189], [189], [186], [3], [0]])


class Thickness(unittest.TestCase):
    def test_none(self):
        self.assertEqual(creeps([2, 0], 1, 0), [[0], [0], [0], [0]])

    def test_the_highest(self):
        self.assertEqual(creeps([2, 0], 1, HIGHEST), [[0], [18446744073709551615], [18446744073709551615], [0]])
        found = ask_of([0, 1, 2, 3, 0], 4, 1, creep(63, HIGHEST), creep(64, HIGHEST), creep(127, HIGHEST))
        self.assertEqual(found, [[1162144876643701751745], [1162144876643701751745], [0]])
        self.assertIs(type(found[0][0]), int)


class CreepsOfEverySection(unittest.TestCase):
    def test_counted_leaf_by_leaf(self):
        for folds in rows_of_folds(3):
            for sheets in (1, 2, 3, 4):
                leaves = sheets * 2 ** len(folds)
                expected = []
                for leaf in range(leaves):
                    above = len([other for other in range(leaves) if other < leaf])
                    below = len([other for other in range(leaves) if other > leaf])
                    expected.append([11 * (above if above < below else below)])
                self.assertEqual(creeps(folds, sheets, 11), expected, (folds, sheets))


class RefusedCreeps(unittest.TestCase):
    def test_no_such_leaf(self):
        for folds, sheets in (([], 1), ([], 3), ([0], 1), ([2, 0], 1), ([3, 1, 2], 4), ([0, 1, 2, 3, 0], 4)):
            leaves = sheets * 2 ** len(folds)
            self.assertEqual(ask_of(folds, sheets, 2000, creep(leaves - 1, 7)), [[0]], (folds, sheets))
            for leaf in (leaves, leaves + 1, 2 * leaves, HIGHEST):
                for thickness in (0, 1, 7, HIGHEST):
                    found = ask_of(folds, sheets, 2000, creep(leaf, thickness))
                    self.assertEqual(found, [[-1]], (folds, sheets, leaf, thickness))


if __name__ == "__main__":
    unittest.main()
