"""Which sheets and folds leave the fewest blank pages."""

from foldsheets.folding import doubled
from foldsheets.jobs import MOST_FOLDS, MOST_SHEETS, sections_of


def choice(pages, sheets, folds):
    # What counts first stands first, so that the least of all choices is the one asked for.
    within = 2 * doubled(sheets, folds)
    sections = sections_of(pages, within)
    return (sections * within - pages, sections, sheets, folds)


def choices_of(pages, sheets):
    return [choice(pages, sheets, folds) for folds in range(MOST_FOLDS + 1)]


def least_choice(pages):
    return min([min(choices_of(pages, sheets)) for sheets in range(1, MOST_SHEETS + 1)])
