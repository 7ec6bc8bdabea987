"""A job: how sheets are folded, and how many pages the book has."""

from foldsheets.folding import column_count, row_count, section_leaves

MOST_FOLDS = 5
HIGHEST_FOLD = 3
MOST_SHEETS = 4
MOST_PAGES = 2000

LEFT = 0
RIGHT = 1
TOP = 2
BOTTOM = 3


class Job:
    def __init__(self, folds, sheets, pages):
        self.folds = folds
        self.sheets = sheets
        self.pages = pages
        self.columns = column_count(folds)
        self.rows = row_count(folds)
        self.leaves = section_leaves(folds, sheets)


def is_job(folds, sheets, pages):
    # How many folds there are is asked first: a list of many thousands is not gone through.
    if len(folds) > MOST_FOLDS:
        return False
    if any([fold > HIGHEST_FOLD for fold in folds]):
        return False
    return 1 <= sheets <= MOST_SHEETS and is_book(pages)


def is_book(pages):
    return 1 <= pages <= MOST_PAGES


def is_page(job, number):
    return 1 <= number <= job.pages


def cell_count(job):
    return job.columns * job.rows


def section_pages(job):
    return 2 * len(job.leaves)


def sections_of(pages, within):
    return (pages + within - 1) // within


def section_count(job):
    return sections_of(job.pages, section_pages(job))


def blank_count(job):
    return section_count(job) * section_pages(job) - job.pages


def spine(job):
    # The folds and the edges at which they lie bear the same numbers.
    return job.folds[-1] if len(job.folds) > 0 else LEFT
