import unittest

from tests.helper import HIGHEST, Paper, ask_of, groups, judge, layout, page, rows_of_folds, side, sizes

# The front and the back of a sheet folded 2, 0: eight pages.
FRONT = ([3, 6, 2, 7], [1, 1, 0, 0])
BACK = ([5, 4, 8, 1], [1, 1, 0, 0])


def judged(which, pages, marks):
    return ask_of([2, 0], 1, 8, judge(0, 0, which, pages, marks))[0]


def with_one(numbers, at, other):
    return numbers[:at] + [other] + numbers[at + 1:]


class RightLayouts(unittest.TestCase):
    def test_hand_made(self):
        self.assertEqual(judged(0, *FRONT), [0])
        self.assertEqual(judged(1, *BACK), [0])
        self.assertEqual(ask_of([], 1, 1, judge(0, 0, 0, [1], [0]), judge(0, 0, 1, [0], [0])), [[0], [0]])
        self.assertEqual(ask_of([2], 1, 4, judge(0, 0, 0, [2, 3], [0, 0]), judge(0, 0, 1, [1, 4], [1, 1])), [[0], [0]])

    def test_hand_made_several_sheets_sections_and_blank_pages(self):
        found = ask_of([0], 2, 13, judge(0, 1, 1, [8, 1], [0, 0]), judge(1, 0, 0, [12, 13], [0, 0]),
                       judge(1, 0, 1, [0, 11], [0, 0]), judge(1, 1, 0, [10, 0], [0, 0]), judge(1, 1, 1, [0, 9], [0, 0]))
        self.assertEqual(found, [[0]] * 5)

    def test_a_blank_page_keeps_the_mark_that_side_tells(self):
        found = ask_of([2, 0], 1, 5, judge(0, 0, 0, [3, 0, 2, 0], [1, 1, 0, 0]),
                       judge(0, 0, 0, [3, 0, 2, 0], [1, 0, 0, 0]), judge(0, 0, 0, [3, 6, 2, 7], [1, 1, 0, 0]))
        self.assertEqual(found, [[0], [1, 1], [1, 1]])

    def test_the_back_is_the_one_turned_over_sideways(self):
        turned_over = layout(ask_of([2, 0], 1, 8, side(0, 0, 1, 1))[0])
        self.assertEqual(turned_over, ([1, 8, 4, 5], [1, 1, 0, 0]))
        self.assertEqual(judged(1, *turned_over), [1, 0])

    def agree(self, folds, sheets, pages):
        sections = ask_of(folds, sheets, pages, sizes())[0][4]
        for section in range(sections):
            looks = [(section, sheet, which) for sheet in range(sheets) for which in (0, 1)]
            sides = ask_of(folds, sheets, pages, *[side(*look, 0) for look in looks])
            calls = [judge(*look, *layout(answer)) for look, answer in zip(looks, sides, strict=True)]
            self.assertEqual(ask_of(folds, sheets, pages, *calls), [[0]] * len(calls), (folds, sheets, pages, section))

    def test_what_side_tells(self):
        for folds in rows_of_folds(3):
            for sheets in (1, 2, 3, 4):
                self.agree(folds, sheets, 40)
        for folds in ([0, 1, 2, 3, 0], [3, 2, 1, 0, 3], [2, 2, 2, 2, 2], [1, 0, 3, 2]):
            self.agree(folds, 4, 300)

    def test_what_paper_tells(self):
        for folds in rows_of_folds(4):
            paper = Paper(folds, 1)
            calls = []
            for which in (0, 1):
                cells = paper.side(0, which, 0)
                calls.append(judge(0, 0, which, [cell[0] for cell in cells], [cell[1] for cell in cells]))
            self.assertEqual(ask_of(folds, 1, 2 * 2 ** len(folds), *calls), [[0], [0]], folds)

    def test_what_page_tells(self):
        for folds, sheets, pages in (([2, 0], 2, 29), ([0, 3, 1], 1, 33), ([3], 4, 16), ([], 3, 5)):
            columns, rows, _, _, sections, _ = ask_of(folds, sheets, pages, sizes())[0]
            places = ask_of(folds, sheets, pages, *[page(number) for number in range(1, pages + 1)])
            for section in range(sections):
                for sheet in range(sheets):
                    for which in (0, 1):
                        told = ask_of(folds, sheets, pages, side(section, sheet, which, 0))[0]
                        # The marks of blank pages are all that page can't tell.
                        cells = [(0, mark) for number, mark in groups(told, 2)]
                        for number, place in enumerate(places, start=1):
                            if place[:3] == [section, sheet, which]:
                                cells[place[4] * columns + place[3]] = (number, place[5])
                        call = judge(section, sheet, which, [cell[0] for cell in cells], [cell[1] for cell in cells])
                        self.assertEqual(ask_of(folds, sheets, pages, call), [[0]], (folds, section, sheet, which))


class WrongLayouts(unittest.TestCase):
    def test_a_page_differs(self):
        for at in range(4):
            for other in (0, 9, 2000, HIGHEST):
                self.assertEqual(judged(0, with_one(FRONT[0], at, other), FRONT[1]), [1, at])
                self.assertEqual(judged(1, with_one(BACK[0], at, other), BACK[1]), [1, at])

    def test_a_mark_differs(self):
        for at in range(4):
            self.assertEqual(judged(0, FRONT[0], with_one(FRONT[1], at, 1 - FRONT[1][at])), [1, at])
            self.assertEqual(judged(1, BACK[0], with_one(BACK[1], at, 1 - BACK[1][at])), [1, at])

    def test_both_differ_in_one_cell(self):
        for at in range(4):
            marks = with_one(FRONT[1], at, 1 - FRONT[1][at])
            self.assertEqual(judged(0, with_one(FRONT[0], at, 0), marks), [1, at])

    def test_the_first_of_several_counts(self):
        for page_at in range(4):
            for mark_at in range(4):
                pages = with_one(FRONT[0], page_at, 99)
                marks = with_one(FRONT[1], mark_at, 1 - FRONT[1][mark_at])
                self.assertEqual(judged(0, pages, marks), [1, min(page_at, mark_at)], (page_at, mark_at))

    def test_the_first_a_middle_and_the_last_of_32_cells(self):
        folds = [0, 2, 1, 3, 0]
        pages, marks = layout(ask_of(folds, 4, 2000, side(5, 2, 1, 0))[0])
        for at in (0, 1, 15, 16, 30, 31):
            found = ask_of(folds, 4, 2000, judge(5, 2, 1, pages, marks),
                           judge(5, 2, 1, with_one(pages, at, pages[at] + 1), marks),
                           judge(5, 2, 1, pages, with_one(marks, at, 1 - marks[at])))
            self.assertEqual(found, [[0], [1, at], [1, at]], at)

    def test_another_section_sheet_or_side(self):
        pages, marks = layout(ask_of([0], 2, 16, side(0, 0, 0, 0))[0])
        found = ask_of([0], 2, 16, judge(0, 0, 0, pages, marks), judge(1, 0, 0, pages, marks),
                       judge(0, 1, 0, pages, marks), judge(0, 0, 1, pages, marks))
        self.assertEqual(found, [[0], [1, 0], [1, 0], [1, 0]])


class RefusedJudgements(unittest.TestCase):
    def refused(self, number, folds, sheets, pages, *calls):
        for call, answer in zip(calls, ask_of(folds, sheets, pages, *calls), strict=True):
            self.assertEqual(answer, [number], call[:6])

    def test_no_such_section_sheet_or_side(self):
        self.refused(-1, [0], 2, 12, judge(2, 0, 0, [4, 5], [0, 0]), judge(HIGHEST, 0, 0, [4, 5], [0, 0]),
                     judge(0, 2, 0, [4, 5], [0, 0]), judge(0, HIGHEST, 0, [4, 5], [0, 0]),
                     judge(0, 0, 2, [4, 5], [0, 0]), judge(0, 0, HIGHEST, [4, 5], [0, 0]))
        self.refused(0, [0], 2, 12, judge(1, 0, 0, [12, 0], [0, 0]), judge(1, 1, 1, [0, 9], [0, 0]))

    def test_that_ahead_of_wrong_lists(self):
        for pages, marks in (([], []), ([1], [0, 0]), ([1, 2, 3], [0, 0]), ([1, 2], [2, 0]), ([1, 2], [0] * 5000)):
            self.refused(-1, [0], 2, 12, judge(2, 0, 0, pages, marks), judge(0, 2, 0, pages, marks),
                         judge(0, 0, 2, pages, marks))
            self.refused(-3, [0], 2, 12, judge(1, 0, 0, pages, marks), judge(0, 1, 0, pages, marks),
                         judge(0, 0, 1, pages, marks))

    def test_pages_too_short_or_too_long(self):
        for pages in ([], [3], FRONT[0][:3], FRONT[0] + [0], FRONT[0] * 2, FRONT[0] * 3000):
            self.refused(-3, [2, 0], 1, 8, judge(0, 0, 0, pages, FRONT[1]))

    def test_marks_too_short_or_too_long(self):
        for marks in ([], [1], FRONT[1][:3], FRONT[1] + [0], FRONT[1] * 2, FRONT[1] * 3000):
            self.refused(-3, [2, 0], 1, 8, judge(0, 0, 0, FRONT[0], marks))

    def test_both_as_wrong_as_one_another(self):
        self.refused(-3, [2, 0], 1, 8, judge(0, 0, 0, [], []), judge(0, 0, 0, FRONT[0][:3], FRONT[1][:3]),
                     judge(0, 0, 0, FRONT[0] + [0], FRONT[1] + [0]), judge(0, 0, 0, FRONT[0] + [0], FRONT[1][:3]))
        self.refused(-3, [2, 0], 1, 8, judge(0, 0, 0, [HIGHEST] * 7000, [HIGHEST] * 7000))

    def test_the_longest_lists(self):
        self.refused(-3, [2, 0], 1, 8, judge(0, 0, 0, [1] * 15000, [0] * 4))
        self.refused(-3, [2, 0], 1, 8, judge(0, 0, 0, [1] * 4, [0] * 15000))

    def test_a_mark_above_1(self):
        for at in range(4):
            for mark in (2, 3, 255, HIGHEST):
                self.refused(-3, [2, 0], 1, 8, judge(0, 0, 0, FRONT[0], with_one(FRONT[1], at, mark)))

    def test_ahead_of_any_comparing(self):
        other = [9, 9, 9, 9]
        self.refused(-3, [2, 0], 1, 8, judge(0, 0, 0, other, [1, 1, 0, 2]), judge(0, 0, 0, other, [1, 1, 0]),
                     judge(0, 0, 0, other + [9], FRONT[1]), judge(0, 0, 0, other[:3], FRONT[1]))
        self.refused(-3, [], 1, 2, judge(0, 0, 0, [], []), judge(0, 0, 0, [1], []), judge(0, 0, 0, [], [0]),
                     judge(0, 0, 0, [7], [2]))


if __name__ == "__main__":
    unittest.main()
