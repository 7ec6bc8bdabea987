import unittest

from tests.helper import HIGHEST, Paper, ask_of, groups, rows_of_folds, stack


class HandMadeStacks(unittest.TestCase):
    def lies(self, folds, sheets, call, expected):
        found = ask_of(folds, sheets, 1, call)[0]
        self.assertEqual(groups(found, 5), expected, (folds, sheets, call))

    def test_no_folds(self):
        self.lies([], 1, stack(0, 0, 0), [(0, 0, 0, 1, 0)])
        self.lies([], 3, stack(0, 0, 0), [(0, 0, 0, 1, 0), (1, 0, 0, 1, 0), (2, 0, 0, 1, 0)])

    def test_flat_before_the_first_fold(self):
        self.lies([0, 2], 2, stack(0, 1, 0), [(0, 1, 0, 1, 0), (1, 1, 0, 1, 0)])
        self.lies([0, 2], 2, stack(0, 0, 1), [(0, 0, 1, 1, 0), (1, 0, 1, 1, 0)])

    def test_left_onto_right(self):
        self.lies([0], 1, stack(1, 0, 0), [(0, 0, 0, 0, 0), (0, 1, 0, 1, 0)])

    def test_right_onto_left(self):
        self.lies([1], 1, stack(1, 0, 0), [(0, 1, 0, 0, 0), (0, 0, 0, 1, 0)])

    def test_upper_onto_lower(self):
        self.lies([2], 1, stack(1, 0, 0), [(0, 0, 0, 0, 1), (0, 0, 1, 1, 0)])

    def test_lower_onto_upper(self):
        self.lies([3], 1, stack(1, 0, 0), [(0, 0, 1, 0, 1), (0, 0, 0, 1, 0)])

    def test_sheets_in_their_order(self):
        self.lies([0], 3, stack(1, 0, 0), [
            (2, 0, 0, 0, 0), (1, 0, 0, 0, 0), (0, 0, 0, 0, 0),
            (0, 1, 0, 1, 0), (1, 1, 0, 1, 0), (2, 1, 0, 1, 0),
        ])
        self.lies([3], 2, stack(1, 0, 0), [
            (1, 0, 1, 0, 1), (0, 0, 1, 0, 1), (0, 0, 0, 1, 0), (1, 0, 0, 1, 0),
        ])

    def test_some_of_several_folds(self):
        self.lies([0, 1], 1, stack(1, 0, 0), [(0, 1, 0, 0, 0), (0, 2, 0, 1, 0)])
        self.lies([0, 1], 1, stack(1, 1, 0), [(0, 0, 0, 0, 0), (0, 3, 0, 1, 0)])
        self.lies([1, 1], 1, stack(1, 0, 0), [(0, 3, 0, 0, 0), (0, 0, 0, 1, 0)])
        self.lies([1, 1], 1, stack(1, 1, 0), [(0, 2, 0, 0, 0), (0, 1, 0, 1, 0)])
        self.lies([2, 3], 1, stack(1, 0, 0), [(0, 0, 1, 0, 1), (0, 0, 2, 1, 0)])
        self.lies([2, 3], 1, stack(1, 0, 1), [(0, 0, 0, 0, 1), (0, 0, 3, 1, 0)])
        self.lies([3, 3], 1, stack(1, 0, 0), [(0, 0, 3, 0, 1), (0, 0, 0, 1, 0)])
        self.lies([3, 3], 1, stack(1, 0, 1), [(0, 0, 2, 0, 1), (0, 0, 1, 1, 0)])

    def test_all_of_several_folds(self):
        self.lies([0, 0], 1, stack(2, 0, 0), [
            (0, 2, 0, 0, 0), (0, 1, 0, 1, 0), (0, 0, 0, 0, 0), (0, 3, 0, 1, 0),
        ])
        self.lies([0, 1], 1, stack(2, 0, 0), [
            (0, 3, 0, 0, 0), (0, 0, 0, 1, 0), (0, 1, 0, 0, 0), (0, 2, 0, 1, 0),
        ])
        self.lies([2, 2], 1, stack(2, 0, 0), [
            (0, 0, 2, 0, 1), (0, 0, 1, 1, 0), (0, 0, 0, 0, 1), (0, 0, 3, 1, 0),
        ])
        self.lies([2, 0], 1, stack(2, 0, 0), [
            (0, 0, 1, 0, 0), (0, 0, 0, 1, 1), (0, 1, 0, 0, 1), (0, 1, 1, 1, 0),
        ])
        self.lies([0, 2], 1, stack(2, 0, 0), [
            (0, 1, 0, 0, 1), (0, 0, 0, 1, 1), (0, 0, 1, 0, 0), (0, 1, 1, 1, 0),
        ])
        self.lies([1, 3], 2, stack(2, 0, 0), [
            (1, 0, 1, 0, 1), (0, 0, 1, 0, 1), (0, 1, 1, 1, 1), (1, 1, 1, 1, 1),
            (1, 1, 0, 0, 0), (0, 1, 0, 0, 0), (0, 0, 0, 1, 0), (1, 0, 0, 1, 0),
        ])


class StacksAgainstPaper(unittest.TestCase):
    def agree(self, folds, sheets, made):
        paper = Paper(folds, sheets, made)
        columns, rows = paper.grid()
        places = [(column, row) for row in range(rows) for column in range(columns)]
        found = ask_of(folds, sheets, 1, *[stack(made, column, row) for column, row in places])
        for (column, row), answer in zip(places, found, strict=True):
            expected = [piece.told() for piece in paper.pile(column, row)]
            self.assertEqual(groups(answer, 5), expected, (folds, sheets, made, column, row))

    def test_every_row_of_folds_behind_all_of_them(self):
        for folds in rows_of_folds(5):
            self.agree(folds, 1 + sum(folds) % 4, len(folds))

    def test_behind_some_folds(self):
        for folds in rows_of_folds(4):
            for made in range(len(folds)):
                self.agree(folds, 2, made)

    def test_all_cells_lie_somewhere_once(self):
        for folds in ([0, 3, 1], [2, 2, 1, 0, 3]):
            for made in range(len(folds) + 1):
                columns, rows = Paper(folds, 3, made).grid()
                found = ask_of(folds, 3, 1, *[stack(made, c, r) for c in range(columns) for r in range(rows)])
                cells = sorted(leaf[:3] for answer in found for leaf in groups(answer, 5))
                flat_columns, flat_rows = Paper(folds, 3, 0).grid()
                expected = [(s, c, r) for s in range(3) for c in range(flat_columns) for r in range(flat_rows)]
                self.assertEqual(cells, expected, (folds, made))


class RefusedStacks(unittest.TestCase):
    def refused(self, folds, *calls):
        for call, answer in zip(calls, ask_of(folds, 2, 9, *calls), strict=True):
            self.assertEqual(answer, [-1], (folds, call))

    def taken(self, folds, *calls):
        for call, answer in zip(calls, ask_of(folds, 2, 9, *calls), strict=True):
            self.assertGreater(answer[0], 0, (folds, call))

    def test_more_folds_than_there_are(self):
        self.refused([], stack(1, 0, 0), stack(HIGHEST, 0, 0))
        self.refused([0, 2], stack(3, 0, 0), stack(5, 0, 0), stack(HIGHEST, 0, 0))
        self.taken([0, 2], stack(2, 0, 0))

    def test_no_such_place_on_the_flat_sheet(self):
        self.taken([0, 2, 0], stack(0, 3, 1))
        self.refused([0, 2, 0], stack(0, 4, 0), stack(0, 0, 2), stack(0, HIGHEST, 0), stack(0, 0, HIGHEST))

    def test_no_such_place_on_the_smaller_grid(self):
        self.taken([0, 2, 0], stack(1, 1, 1), stack(2, 1, 0), stack(3, 0, 0))
        self.refused([0, 2, 0], stack(1, 2, 0), stack(1, 0, 2), stack(1, 3, 1))
        self.refused([0, 2, 0], stack(2, 2, 0), stack(2, 0, 1), stack(2, 1, 1))
        self.refused([0, 2, 0], stack(3, 1, 0), stack(3, 0, 1), stack(3, 3, 1))
        self.refused([3, 1, 2], stack(1, 0, 2), stack(1, 2, 0), stack(2, 1, 0), stack(2, 0, 2), stack(3, 0, 1))

    def test_columns_and_rows_are_not_exchanged(self):
        self.taken([0, 1], stack(0, 3, 0))
        self.refused([0, 1], stack(0, 0, 3), stack(0, 0, 1))
        self.taken([2, 3], stack(0, 0, 3))
        self.refused([2, 3], stack(0, 3, 0), stack(0, 1, 0))


if __name__ == "__main__":
    unittest.main()
