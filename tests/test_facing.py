import unittest

from tests.helper import HIGHEST, ask_of, facing, rows_of_folds


def all_facing(folds, sheets, pages):
    return [answer[0] for answer in ask_of(folds, sheets, pages, *[facing(page) for page in range(1, pages + 1)])]


class Facing(unittest.TestCase):
    def test_the_first_page_has_none(self):
        for pages in (1, 2, 3, 2000):
            self.assertEqual(ask_of([0], 1, pages, facing(1)), [[0]], pages)

    def test_even_and_odd_pages(self):
        self.assertEqual(all_facing([2, 0], 1, 8), [0, 3, 2, 5, 4, 7, 6, 0])
        self.assertEqual(all_facing([2, 0], 1, 7), [0, 3, 2, 5, 4, 7, 6])

    def test_the_last_page(self):
        for pages in (2, 4, 6, 1998, 2000):
            self.assertEqual(ask_of([0], 1, pages, facing(pages)), [[0]], pages)
        for pages in (3, 5, 7, 1999):
            self.assertEqual(ask_of([0], 1, pages, facing(pages), facing(pages - 1)), [[pages - 1], [pages]], pages)

    def test_the_last_page_before_a_blank_one(self):
        # Section pages 7 and 8 are there, but blank.
        self.assertEqual(all_facing([2, 0], 1, 6), [0, 3, 2, 5, 4, 0])

    def test_across_sections(self):
        self.assertEqual(all_facing([0], 1, 9), [0, 3, 2, 5, 4, 7, 6, 9, 8])
        self.assertEqual(all_facing([], 1, 5), [0, 3, 2, 5, 4])

    def test_folds_and_sheets_change_nothing(self):
        for folds in rows_of_folds(2):
            for sheets in (1, 3):
                self.assertEqual(all_facing(folds, sheets, 10), [0, 3, 2, 5, 4, 7, 6, 9, 8, 0], (folds, sheets))


class RefusedFacing(unittest.TestCase):
    def test_no_such_page(self):
        for pages in (1, 2, 5, 8, 2000):
            found = ask_of([2, 0], 1, pages, facing(0), facing(pages + 1), facing(pages + 2), facing(2 * pages + 1),
                           facing(HIGHEST), facing(HIGHEST - 1))
            self.assertEqual(found, [[-1]] * 6, pages)

    def test_blank_pages_are_none_of_the_book(self):
        self.assertEqual(ask_of([2, 0], 1, 5, facing(5), facing(6), facing(7), facing(8)), [[4], [-1], [-1], [-1]])


if __name__ == "__main__":
    unittest.main()
