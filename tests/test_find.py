import unittest

from foldsheets.desk import answers
from tests.helper import HIGHEST, Paper, ask, find, groups, job, joined, rows_of, sheet_layout, side, sizes, stack

# A sheet folded 2, 0: its front, its back.
QUARTO = ([3, 6, 2, 7], [1, 1, 0, 0], [5, 4, 8, 1], [1, 1, 0, 0])


def found(how_many, lists):
    return ask(find(how_many, *lists))[0]


def with_list(lists, at, other):
    return [other if number == at else each for number, each in enumerate(lists)]


def with_number(lists, which, at, other):
    changed = list(lists[which])
    changed[at] = other
    return with_list(lists, which, changed)


class HandMadeLayouts(unittest.TestCase):
    def test_no_folds(self):
        self.assertEqual(found(0, ([1], [0], [2], [0])), [1])
        for lists in (([2], [0], [1], [0]), ([1], [1], [2], [0]), ([1], [0], [2], [1]), ([1], [0], [1], [0]),
                      ([0], [0], [0], [0])):
            self.assertEqual(found(0, lists), [0], lists)

    def test_one_fold(self):
        self.assertEqual(found(1, ([2, 3], [0, 0], [4, 1], [0, 0])), [1, 0])
        self.assertEqual(found(1, ([3, 2], [0, 0], [1, 4], [0, 0])), [1, 1])
        self.assertEqual(found(1, ([2, 3], [0, 0], [1, 4], [1, 1])), [1, 2])
        self.assertEqual(found(1, ([3, 2], [0, 0], [4, 1], [1, 1])), [1, 3])

    def test_one_fold_that_no_fold_brings_about(self):
        for lists in (([2, 3], [0, 0], [1, 4], [0, 0]), ([2, 3], [0, 0], [4, 1], [1, 1]),
                      ([1, 4], [0, 0], [3, 2], [0, 0]), ([2, 3], [0, 1], [4, 1], [0, 0])):
            self.assertEqual(found(1, lists), [0], lists)

    def test_quarto_and_octavo(self):
        self.assertEqual(found(2, QUARTO), [1, 2, 0])
        self.assertEqual(found(2, ([3, 2, 6, 7], [1, 0, 1, 0], [1, 4, 8, 5], [1, 0, 1, 0])), [1, 0, 2])
        octavo = ([7, 10, 11, 6, 2, 15, 14, 3], [1, 1, 1, 1, 0, 0, 0, 0],
                  [5, 12, 9, 8, 4, 13, 16, 1], [1, 1, 1, 1, 0, 0, 0, 0])
        self.assertEqual(found(3, octavo), [1, 1, 2, 0])

    def test_the_back_is_the_one_turned_over_sideways(self):
        self.assertEqual(found(2, (QUARTO[0], QUARTO[1], [1, 8, 4, 5], [1, 1, 0, 0])), [0])


class EveryLayout(unittest.TestCase):
    """The rows that are found are just those whose own sides are alike."""

    def agree(self, some):
        length = len(some[0])
        own = {tuple(row): sheet_layout(row) for row in rows_of(length)}
        for folds in some:
            lists = sheet_layout(folds)
            alike = [row for row in sorted(own) if own[row] == lists]
            self.assertIn(tuple(folds), alike)
            answer = found(length, lists)
            self.assertEqual(answer, [len(alike)] + [fold for row in alike for fold in row], folds)

    def test_up_to_four_folds(self):
        for length in range(5):
            self.agree(rows_of(length))

    def test_some_of_five_folds(self):
        self.agree(rows_of(5)[::41] + [[3, 3, 3, 3, 3], [0, 0, 0, 0, 0], [2, 1, 2, 1, 2], [3, 2, 1, 0, 3]])

    def test_layouts_of_paper(self):
        for folds in rows_of(3) + rows_of(5)[7::97]:
            paper = Paper(folds, 1)
            sides = [paper.side(0, which, 0) for which in (0, 1)]
            lists = [[cell[at] for cell in cells] for cells in sides for at in (0, 1)]
            rows = groups(found(len(folds), lists), len(folds))
            self.assertIn(tuple(folds), rows)


class LayoutsThatNoFoldsBringAbout(unittest.TestCase):
    def test_one_number_differs(self):
        for folds in ([2, 0], [1, 3], [0, 0], [1, 2, 0], [3, 0, 2]):
            lists = sheet_layout(folds)
            for at in range(2 ** len(folds)):
                for which in (0, 2):
                    for other in (0, lists[which][at] + 1, HIGHEST):
                        self.assertEqual(found(len(folds), with_number(lists, which, at, other)), [0], (folds, at))
                for which in (1, 3):
                    wrong = with_number(lists, which, at, 1 - lists[which][at])
                    self.assertEqual(found(len(folds), wrong), [0], (folds, at))

    def test_five_folds(self):
        lists = sheet_layout([0, 3, 1, 2, 1])
        self.assertEqual(found(5, lists), [1, 0, 3, 1, 2, 1])
        for which in (0, 1, 2, 3):
            for at in (0, 13, 31):
                self.assertEqual(found(5, with_number(lists, which, at, 1 - lists[which][at] % 2)), [0], (which, at))
        self.assertEqual(found(5, ([0] * 32, [0] * 32, [0] * 32, [0] * 32)), [0])
        self.assertEqual(found(5, ([HIGHEST] * 32, [1] * 32, [HIGHEST] * 32, [1] * 32)), [0])
        self.assertEqual(found(5, ([64] * 32, [0] * 32, [64] * 32, [0] * 32)), [0])
        self.assertEqual(found(5, (list(range(1, 33)), [0] * 32, list(range(33, 65)), [0] * 32)), [0])

    def test_front_and_back_exchanged(self):
        self.assertEqual(found(2, QUARTO[2:] + QUARTO[:2]), [0])

    def test_pages_of_a_later_section_and_blank_ones(self):
        self.assertEqual(found(1, ([6, 7], [0, 0], [8, 5], [0, 0])), [0])
        self.assertEqual(found(1, ([2, 3], [0, 0], [0, 1], [0, 0])), [0])


class RefusedFinds(unittest.TestCase):
    def test_more_than_five_folds(self):
        for how_many in (6, 7, 64, 2 ** 32, HIGHEST):
            for lists in (QUARTO, ([], [], [], []), ([2] * 9, [2], [], [7])):
                self.assertEqual(found(how_many, lists), [-1], how_many)
        self.assertEqual(found(6, ([1] * 64, [0] * 64, [1] * 64, [0] * 64)), [-1])
        self.assertEqual(found(6, ([1] * 64, [2] * 64, [1] * 64, [2] * 64)), [-1])

    def test_a_list_too_short_or_too_long(self):
        for at in range(4):
            for other in ([], [1], QUARTO[at][:3], QUARTO[at] + [1], QUARTO[at] * 2, QUARTO[at] * 3000):
                self.assertEqual(found(2, with_list(QUARTO, at, other)), [-3], (at, len(other)))

    def test_lists_of_another_number_of_folds(self):
        for how_many in range(6):
            lists = sheet_layout([0] * how_many)
            for other in range(6):
                expected = [1] + [0] * how_many if other == how_many else [-3]
                self.assertEqual(found(other, lists), expected, (how_many, other))

    def test_empty_lists(self):
        for how_many in range(6):
            self.assertEqual(found(how_many, ([], [], [], [])), [-3], how_many)

    def test_the_longest_lists(self):
        for at in range(4):
            self.assertEqual(found(2, with_list(QUARTO, at, [1] * 15000)), [-3], at)

    def test_a_mark_above_1(self):
        for which in (1, 3):
            for at in range(4):
                for mark in (2, 3, 256, HIGHEST):
                    self.assertEqual(found(2, with_number(QUARTO, which, at, mark)), [-3], (which, at, mark))
        self.assertEqual(found(0, ([1], [2], [2], [0])), [-3])
        self.assertEqual(found(0, ([1], [0], [2], [2])), [-3])

    def test_that_ahead_of_any_comparing(self):
        self.assertEqual(found(2, ([9] * 4, [0, 0, 0, 2], [9] * 4, [0] * 4)), [-3])
        self.assertEqual(found(2, ([9] * 4, [0] * 4, [9] * 4, [0, 0, 0, 2])), [-3])

    def test_pages_may_be_any_numbers(self):
        self.assertEqual(found(0, ([HIGHEST], [1], [HIGHEST], [1])), [0])


class WithAndWithoutAJob(unittest.TestCase):
    def test_alike_whatever_the_job(self):
        for call in (find(2, *QUARTO), find(6, *QUARTO), find(3, *QUARTO), find(1, [1, 1], [0, 0], [1, 1], [0, 0])):
            alone = ask(call)
            for before in (job([], 1, 1), job([2, 0], 1, 8), job([0, 1, 3], 4, 700), job([4], 1, 1)):
                self.assertEqual(ask(before, call)[1:], alone)

    def test_the_job_is_as_it_was(self):
        asking = [sizes(), side(0, 1, 1, 0), stack(1, 0, 0), joined()]
        plain = ask(job([0, 3], 2, 11), *asking)[1:]
        for call in (find(2, *QUARTO), find(6, *QUARTO), find(3, *QUARTO)):
            self.assertEqual(ask(job([0, 3], 2, 11), call, *asking)[2:], plain)

    def test_it_makes_no_job(self):
        self.assertEqual(answers(find(2, *QUARTO) + sizes()), [3, 1, 2, 0, 1, -8])
        self.assertEqual(answers(find(6, *QUARTO) + sizes()), [1, -1, 1, -8])


if __name__ == "__main__":
    unittest.main()
