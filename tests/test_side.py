import unittest

from tests.helper import HIGHEST, Paper, ask_of, groups, rows_of_folds, side


class HandMadeLayouts(unittest.TestCase):
    def stands(self, folds, sheets, pages, call, expected):
        found = ask_of(folds, sheets, pages, call)[0]
        self.assertEqual(groups(found, 2), expected, (folds, sheets, pages, call))

    def test_no_folds(self):
        self.stands([], 1, 2, side(0, 0, 0, 0), [(1, 0)])
        self.stands([], 1, 2, side(0, 0, 1, 0), [(2, 0)])
        self.stands([], 1, 2, side(0, 0, 1, 1), [(2, 1)])
        self.stands([], 2, 4, side(0, 1, 0, 0), [(3, 0)])
        self.stands([], 2, 4, side(0, 1, 1, 0), [(4, 0)])

    def test_spine_left(self):
        self.stands([0], 1, 4, side(0, 0, 0, 0), [(2, 0), (3, 0)])
        self.stands([0], 1, 4, side(0, 0, 1, 0), [(4, 0), (1, 0)])
        self.stands([0], 1, 4, side(0, 0, 1, 1), [(1, 1), (4, 1)])

    def test_spine_right(self):
        self.stands([1], 1, 4, side(0, 0, 0, 0), [(3, 0), (2, 0)])
        self.stands([1], 1, 4, side(0, 0, 1, 0), [(1, 0), (4, 0)])
        self.stands([1], 1, 4, side(0, 0, 1, 1), [(4, 1), (1, 1)])

    def test_spine_top(self):
        self.stands([2], 1, 4, side(0, 0, 0, 0), [(2, 0), (3, 0)])
        self.stands([2], 1, 4, side(0, 0, 1, 0), [(1, 1), (4, 1)])
        self.stands([2], 1, 4, side(0, 0, 1, 1), [(4, 0), (1, 0)])

    def test_spine_bottom(self):
        self.stands([3], 1, 4, side(0, 0, 0, 0), [(3, 0), (2, 0)])
        self.stands([3], 1, 4, side(0, 0, 1, 0), [(4, 1), (1, 1)])
        self.stands([3], 1, 4, side(0, 0, 1, 1), [(1, 0), (4, 0)])

    def test_quarto(self):
        self.stands([2, 0], 1, 8, side(0, 0, 0, 0), [(3, 1), (6, 1), (2, 0), (7, 0)])
        self.stands([2, 0], 1, 8, side(0, 0, 1, 0), [(5, 1), (4, 1), (8, 0), (1, 0)])
        self.stands([2, 0], 1, 8, side(0, 0, 1, 1), [(1, 1), (8, 1), (4, 0), (5, 0)])

    def test_spine_top_behind_two_folds(self):
        self.stands([0, 2], 1, 8, side(0, 0, 0, 0), [(3, 1), (2, 0), (6, 1), (7, 0)])
        self.stands([0, 2], 1, 8, side(0, 0, 1, 0), [(1, 1), (4, 0), (8, 1), (5, 0)])

    def test_octavo(self):
        # The binders' common octavo: its inner and its outer forme.
        inner = [(7, 1), (10, 1), (11, 1), (6, 1), (2, 0), (15, 0), (14, 0), (3, 0)]
        outer = [(5, 1), (12, 1), (9, 1), (8, 1), (4, 0), (13, 0), (16, 0), (1, 0)]
        self.stands([1, 2, 0], 1, 16, side(0, 0, 0, 0), inner)
        self.stands([1, 2, 0], 1, 16, side(0, 0, 1, 0), outer)

    def test_several_sheets(self):
        self.stands([0], 2, 8, side(0, 0, 0, 0), [(4, 0), (5, 0)])
        self.stands([0], 2, 8, side(0, 0, 1, 0), [(6, 0), (3, 0)])
        self.stands([0], 2, 8, side(0, 1, 0, 0), [(2, 0), (7, 0)])
        self.stands([0], 2, 8, side(0, 1, 1, 0), [(8, 0), (1, 0)])

    def test_several_sections(self):
        self.stands([0], 1, 12, side(1, 0, 0, 0), [(6, 0), (7, 0)])
        self.stands([0], 1, 12, side(1, 0, 1, 0), [(8, 0), (5, 0)])
        self.stands([0], 1, 12, side(2, 0, 0, 0), [(10, 0), (11, 0)])
        self.stands([0], 1, 12, side(2, 0, 1, 1), [(9, 1), (12, 1)])

    def test_blank_pages_are_0_and_the_way_up_of_their_place(self):
        self.stands([0], 1, 5, side(1, 0, 0, 0), [(0, 0), (0, 0)])
        self.stands([0], 1, 5, side(1, 0, 1, 0), [(0, 0), (5, 0)])
        self.stands([2, 0], 1, 6, side(0, 0, 0, 0), [(3, 1), (6, 1), (2, 0), (0, 0)])
        self.stands([2, 0], 1, 5, side(0, 0, 0, 0), [(3, 1), (0, 1), (2, 0), (0, 0)])
        self.stands([2, 0], 1, 5, side(0, 0, 1, 1), [(1, 1), (0, 1), (4, 0), (5, 0)])

    def test_a_front_is_seen_one_way_alone(self):
        self.stands([2, 0], 1, 8, side(0, 0, 0, 1), [(3, 1), (6, 1), (2, 0), (7, 0)])
        self.stands([0, 2], 1, 8, side(0, 0, 0, 1), [(3, 1), (2, 0), (6, 1), (7, 0)])


class SidesAgainstPaper(unittest.TestCase):
    def agree(self, folds, sheets):
        paper = Paper(folds, sheets)
        looks = [(sheet, which, way) for sheet in range(sheets) for which in (0, 1) for way in (0, 1)]
        pages = 2 * sheets * 2 ** len(folds)
        found = ask_of(folds, sheets, pages, *[side(0, *look) for look in looks])
        for look, answer in zip(looks, found, strict=True):
            self.assertEqual(groups(answer, 2), paper.side(*look), (folds, sheets, look))

    def test_every_row_of_folds(self):
        for folds in rows_of_folds(5):
            self.agree(folds, 1)

    def test_several_sheets(self):
        for folds in rows_of_folds(3):
            for sheets in (2, 3, 4):
                self.agree(folds, sheets)

    def test_five_folds_of_four_sheets(self):
        for folds in ([0, 1, 2, 3, 0], [3, 2, 1, 0, 3], [1, 1, 1, 1, 1], [2, 2, 2, 2, 2], [2, 0, 2, 0, 1]):
            self.agree(folds, 4)

    def test_later_sections_and_blank_pages(self):
        for folds in rows_of_folds(2):
            within = 4 * 2 ** len(folds)
            pages = 3 * within - within // 2 - 1
            paper = Paper(folds, 2)
            for section in (0, 1, 2):
                looks = [(sheet, which, way) for sheet in (0, 1) for which in (0, 1) for way in (0, 1)]
                found = ask_of(folds, 2, pages, *[side(section, *look) for look in looks])
                for look, answer in zip(looks, found, strict=True):
                    shifted = [(number + section * within, upside) for number, upside in paper.side(*look)]
                    expected = [(number if number <= pages else 0, upside) for number, upside in shifted]
                    self.assertEqual(groups(answer, 2), expected, (folds, section, look))


class RefusedSides(unittest.TestCase):
    def refused(self, folds, sheets, pages, *calls):
        for call, answer in zip(calls, ask_of(folds, sheets, pages, *calls), strict=True):
            self.assertEqual(answer, [-1], call)

    def taken(self, folds, sheets, pages, *calls):
        for call, answer in zip(calls, ask_of(folds, sheets, pages, *calls), strict=True):
            self.assertEqual(answer[0], 2 ** len(folds), call)

    def test_no_such_section(self):
        self.taken([0], 1, 12, side(2, 0, 0, 0))
        self.refused([0], 1, 12, side(3, 0, 0, 0), side(4, 0, 0, 0), side(HIGHEST, 0, 0, 0))
        self.taken([0], 1, 13, side(3, 0, 0, 0))
        self.refused([0], 1, 13, side(4, 0, 0, 0))
        self.taken([], 1, 2000, side(999, 0, 1, 1))
        self.refused([], 1, 2000, side(1000, 0, 1, 1))

    def test_no_such_sheet(self):
        for sheets in (1, 2, 3, 4):
            self.taken([3], sheets, 1, side(0, sheets - 1, 0, 0))
            self.refused([3], sheets, 1, side(0, sheets, 0, 0), side(0, HIGHEST, 1, 1))

    def test_no_such_side(self):
        self.taken([3], 1, 1, side(0, 0, 0, 0), side(0, 0, 1, 0))
        self.refused([3], 1, 1, side(0, 0, 2, 0), side(0, 0, HIGHEST, 0))

    def test_no_such_way(self):
        self.taken([3], 1, 1, side(0, 0, 0, 1), side(0, 0, 1, 1))
        self.refused([3], 1, 1, side(0, 0, 0, 2), side(0, 0, 1, 2), side(0, 0, 0, HIGHEST), side(0, 0, 1, HIGHEST))


if __name__ == "__main__":
    unittest.main()
