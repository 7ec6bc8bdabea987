import unittest

from tests.helper import HIGHEST, ask_of, groups, page, rows_of_folds, side, sizes, stack


def all_pages(folds, sheets, pages):
    """What page answers of each page, asked 400 calls at a time."""
    found = []
    for first in range(1, pages + 1, 399):
        last = min(first + 398, pages)
        found.extend(ask_of(folds, sheets, pages, *[page(number) for number in range(first, last + 1)]))
    return found


class HandMadePages(unittest.TestCase):
    def test_no_folds(self):
        self.assertEqual(all_pages([], 1, 3), [[0, 0, 0, 0, 0, 0], [0, 0, 1, 0, 0, 0], [1, 0, 0, 0, 0, 0]])

    def test_quarto(self):
        self.assertEqual(all_pages([2, 0], 1, 9), [
            [0, 0, 1, 1, 1, 0], [0, 0, 0, 0, 1, 0], [0, 0, 0, 0, 0, 1], [0, 0, 1, 1, 0, 1],
            [0, 0, 1, 0, 0, 1], [0, 0, 0, 1, 0, 1], [0, 0, 0, 1, 1, 0], [0, 0, 1, 0, 1, 0],
            [1, 0, 1, 1, 1, 0],
        ])

    def test_spine_top(self):
        self.assertEqual(all_pages([2], 1, 4), [
            [0, 0, 1, 0, 0, 1], [0, 0, 0, 0, 0, 0], [0, 0, 0, 0, 1, 0], [0, 0, 1, 0, 1, 1],
        ])

    def test_two_sheets(self):
        self.assertEqual(all_pages([1], 2, 8), [
            [0, 1, 1, 0, 0, 0], [0, 1, 0, 1, 0, 0], [0, 0, 1, 0, 0, 0], [0, 0, 0, 1, 0, 0],
            [0, 0, 0, 0, 0, 0], [0, 0, 1, 1, 0, 0], [0, 1, 0, 0, 0, 0], [0, 1, 1, 1, 0, 0],
        ])


class PagesAgainstSides(unittest.TestCase):
    def agree(self, folds, sheets, pages):
        columns, rows, leaves, within, sections, blank = ask_of(folds, sheets, pages, sizes())[0]
        on_sides = {}
        blanks = 0
        for section in range(sections):
            looks = [(sheet, which) for sheet in range(sheets) for which in (0, 1)]
            found = ask_of(folds, sheets, pages, *[side(section, *look, 0) for look in looks])
            for (sheet, which), answer in zip(looks, found, strict=True):
                for cell, (number, upside) in enumerate(groups(answer, 2)):
                    if number == 0:
                        blanks += 1
                        continue
                    self.assertNotIn(number, on_sides)
                    on_sides[number] = [section, sheet, which, cell % columns, cell // columns, upside]
        self.assertEqual(blanks, blank)
        self.assertEqual(sorted(on_sides), list(range(1, pages + 1)))
        self.assertEqual([on_sides[number] for number in range(1, pages + 1)], all_pages(folds, sheets, pages))

    def test_whole_sections(self):
        for folds in rows_of_folds(3):
            self.agree(folds, 2, 4 * 2 ** len(folds))

    def test_several_sections_the_last_with_blank_pages(self):
        for folds in rows_of_folds(2):
            for sheets in (1, 3):
                self.agree(folds, sheets, 40)
        self.agree([0, 3, 1, 2, 2], 4, 700)
        self.agree([1, 2, 0, 3], 1, 65)

    def test_the_longest_books(self):
        self.agree([2, 1], 1, 2000)
        self.agree([], 4, 1999)


class LeavesBearTheirPages(unittest.TestCase):
    def bear(self, folds, sheets):
        leaves = sheets * 2 ** len(folds)
        columns = ask_of(folds, sheets, 1, sizes())[0][0]
        lying = groups(ask_of(folds, sheets, 1, stack(len(folds), 0, 0))[0], 5)
        told = all_pages(folds, sheets, 2 * leaves)
        self.assertEqual(len(lying), leaves)
        faces = set()
        for number, (sheet, column, row, front, turned) in enumerate(lying):
            upper, lower = told[2 * number], told[2 * number + 1]
            self.assertEqual(upper[2], 0 if front else 1, (folds, sheets, number))
            self.assertEqual(lower[2], 1 if front else 0, (folds, sheets, number))
            for place in (upper, lower):
                seen = column if place[2] == 0 else columns - 1 - column
                self.assertEqual(place[:2] + place[3:5], [0, sheet, seen, row], (folds, sheets, number))
                faces.add(tuple(place[1:5]))
            self.assertEqual(upper[5], turned, (folds, sheets, number))
            at_head = len(folds) > 0 and folds[-1] >= 2
            self.assertEqual(lower[5], 1 - turned if at_head else turned, (folds, sheets, number))
        self.assertEqual(len(faces), 2 * leaves)

    def test_each_row_of_folds(self):
        for folds in rows_of_folds(4):
            self.bear(folds, 1)

    def test_several_sheets(self):
        for folds in ([], [0], [1], [2], [3], [0, 2], [3, 1, 2], [2, 2, 0, 1], [1, 0, 3, 2, 3]):
            for sheets in (2, 3, 4):
                self.bear(folds, sheets)


class RefusedPages(unittest.TestCase):
    def test_no_page_0(self):
        self.assertEqual(ask_of([0], 1, 5, page(0)), [[-1]])

    def test_no_page_above_the_last(self):
        found = ask_of([0], 1, 5, page(5), page(6), page(8), page(9), page(HIGHEST))
        self.assertEqual(found, [[1, 0, 1, 1, 0, 0], [-1], [-1], [-1], [-1]])

    def test_edges_of_the_shortest_and_the_longest_book(self):
        found = ask_of([], 1, 1, page(0), page(1), page(2))
        self.assertEqual(found, [[-1], [0, 0, 0, 0, 0, 0], [-1]])
        found = ask_of([], 1, 2000, page(0), page(1), page(2000), page(2001))
        self.assertEqual(found, [[-1], [0, 0, 0, 0, 0, 0], [999, 0, 1, 0, 0, 0], [-1]])


if __name__ == "__main__":
    unittest.main()
