import unittest

from tests.helper import HIGHEST, ask, job, joined, least, side, sizes


def counted_out(pages, sheets, folds):
    """Blank pages and sections, by laying section behind section until the book is in."""
    within = 2 * sheets
    for _ in range(folds):
        within += within
    sections = 0
    room = 0
    while room < pages:
        sections += 1
        room += within
    return {"blank": room - pages, "sections": sections, "sheets": sheets, "folds": folds}


def all_choices(pages):
    return [counted_out(pages, sheets, folds) for sheets in (1, 2, 3, 4) for folds in (0, 1, 2, 3, 4, 5)]


def searched(pages):
    left = all_choices(pages)
    for what in ("blank", "sections", "sheets", "folds"):
        fewest = min(each[what] for each in left)
        left = [each for each in left if each[what] == fewest]
    assert len(left) == 1
    return [left[0][what] for what in ("blank", "sections", "sheets", "folds")]


def asked(numbers):
    """What least answers of each number, asked 400 calls at a time."""
    found = []
    for first in range(0, len(numbers), 400):
        found.extend(ask(*[least(pages) for pages in numbers[first:first + 400]]))
    return found


class HandMadeChoices(unittest.TestCase):
    def chosen(self, pages, expected):
        self.assertEqual(ask(least(pages)), [expected], pages)

    def test_the_shortest_and_the_longest_book(self):
        self.chosen(1, [1, 1, 1, 0])
        self.chosen(2, [0, 1, 1, 0])
        self.chosen(1999, [1, 125, 1, 3])
        self.chosen(2000, [0, 125, 1, 3])

    def test_fewest_blank_pages_first(self):
        # One section of 12 pages would leave two blank, one of 16 pages two.
        self.chosen(10, [0, 5, 1, 0])
        self.chosen(14, [0, 7, 1, 0])
        self.chosen(9, [1, 5, 1, 0])

    def test_then_fewest_sections(self):
        # Six sections of 2 pages, three of 4, two of 6 leave none blank either.
        self.chosen(12, [0, 1, 3, 1])
        # Three sections of one sheet without folds have fewer sheets, but are more sections.
        self.chosen(6, [0, 1, 3, 0])
        self.chosen(768, [0, 3, 4, 5])

    def test_then_fewest_sheets(self):
        # Two sheets without folds have 4 pages too, four sheets once folded 16, four sheets four times folded 128.
        self.chosen(4, [0, 1, 1, 1])
        self.chosen(16, [0, 1, 1, 3])
        self.chosen(128, [0, 1, 2, 5])

    def test_folds_are_told_by_what_came_before(self):
        # Choices alike in blank pages, sections and sheets are alike in folds: so fewest folds never has to choose.
        for pages in range(1, 2001):
            alike = {(each["blank"], each["sections"], each["sheets"]) for each in all_choices(pages)}
            self.assertEqual(len(alike), 24, pages)


class EveryBook(unittest.TestCase):
    def test_against_a_plain_search(self):
        numbers = list(range(1, 2001))
        for pages, answer in zip(numbers, asked(numbers), strict=True):
            self.assertEqual(answer, searched(pages), pages)

    def test_sizes_tells_the_same(self):
        for pages in (1, 5, 12, 77, 128, 500, 1999):
            blank, sections, sheets, folds = ask(least(pages))[0]
            told = ask(job([0] * folds, sheets, pages), sizes())[1]
            self.assertEqual(told[4:], [sections, blank], pages)


class RefusedBooks(unittest.TestCase):
    def test_not_1_to_2000(self):
        for pages in (0, 2001, 2002, 4000, 2 ** 32 + 1, 2 ** 63, HIGHEST):
            self.assertEqual(ask(least(pages)), [[-1]], pages)


class WithAndWithoutAJob(unittest.TestCase):
    def test_alike_whatever_the_job(self):
        for pages in (0, 1, 12, 2000, 2001):
            alone = ask(least(pages))
            for before in (job([], 1, 1), job([0, 1, 3], 4, 700), job([4], 1, 1)):
                self.assertEqual(ask(before, least(pages))[1:], alone, pages)

    def test_the_job_is_as_it_was(self):
        asking = [sizes(), side(0, 1, 1, 0), joined()]
        plain = ask(job([0, 3], 2, 11), *asking)[1:]
        for pages in (0, 1, 2000, 2001):
            self.assertEqual(ask(job([0, 3], 2, 11), least(pages), *asking)[2:], plain, pages)

    def test_it_makes_no_job(self):
        self.assertEqual(ask(least(5), sizes(), least(0), sizes()), [[1, 1, 3, 0], [-8], [-1], [-8]])


if __name__ == "__main__":
    unittest.main()
