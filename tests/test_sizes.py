import unittest

from tests.helper import ask_of, rows_of_folds, sizes


class Sizes(unittest.TestCase):
    def told(self, folds, sheets, pages, expected):
        self.assertEqual(ask_of(folds, sheets, pages, sizes()), [expected], (folds, sheets, pages))

    def test_no_folds(self):
        self.told([], 1, 1, [1, 1, 1, 2, 1, 1])
        self.told([], 1, 2, [1, 1, 1, 2, 1, 0])
        self.told([], 1, 3, [1, 1, 1, 2, 2, 1])
        self.told([], 4, 2000, [1, 1, 4, 8, 250, 0])

    def test_one_to_five_folds(self):
        self.told([0], 1, 4, [2, 1, 2, 4, 1, 0])
        self.told([1], 1, 5, [2, 1, 2, 4, 2, 3])
        self.told([2], 1, 4, [1, 2, 2, 4, 1, 0])
        self.told([3], 1, 3, [1, 2, 2, 4, 1, 1])
        self.told([0, 2], 1, 8, [2, 2, 4, 8, 1, 0])
        self.told([0, 1, 2], 1, 17, [4, 2, 8, 16, 2, 15])
        self.told([2, 3, 2, 0], 1, 32, [2, 8, 16, 32, 1, 0])
        self.told([0, 0, 1, 1, 0], 1, 1, [32, 1, 32, 64, 1, 63])
        self.told([3, 2, 3, 2, 3], 1, 2000, [1, 32, 32, 64, 32, 48])

    def test_one_to_four_sheets(self):
        self.told([2, 1], 1, 100, [2, 2, 4, 8, 13, 4])
        self.told([2, 1], 2, 100, [2, 2, 8, 16, 7, 12])
        self.told([2, 1], 3, 100, [2, 2, 12, 24, 5, 20])
        self.told([2, 1], 4, 100, [2, 2, 16, 32, 4, 28])
        self.told([0, 1, 2, 3, 0], 4, 2000, [8, 4, 128, 256, 8, 48])

    def test_last_section_full_and_not(self):
        self.told([0], 3, 23, [2, 1, 6, 12, 2, 1])
        self.told([0], 3, 24, [2, 1, 6, 12, 2, 0])
        self.told([0], 3, 25, [2, 1, 6, 12, 3, 11])

    def test_sizes_agree_with_one_another(self):
        for folds in rows_of_folds(3):
            for sheets in (1, 2, 3, 4):
                for pages in (1, 31, 32, 33, 2000):
                    columns, rows, leaves, within, sections, blank = ask_of(folds, sheets, pages, sizes())[0]
                    self.assertEqual(columns * rows * sheets, leaves)
                    self.assertEqual(columns * rows, 2 ** len(folds))
                    self.assertEqual(leaves * 2, within)
                    self.assertEqual(within * sections - blank, pages)
                    self.assertTrue(0 <= blank < within)


if __name__ == "__main__":
    unittest.main()
