"""By which rows of folds a printed sheet comes right."""

from foldsheets.folding import column_count, is_sideways, resting_place
from foldsheets.jobs import HIGHEST_FOLD, Job
from foldsheets.layout import BACK, FRONT, side_cells


def longer_rows(rows):
    longer = []
    for row in rows:
        for fold in range(HIGHEST_FOLD + 1):
            longer.append(row + [fold])
    return longer


def rows_in_order(how_many):
    rows = [[]]
    for length in range(how_many):
        rows = longer_rows(rows)
    return rows


def bottom_place(folds):
    # No fold moves the bottom leaf: unfolded from the last fold on, it rests each time.
    place = 0
    places = 1
    for fold in reversed(folds):
        place = resting_place(fold, places, place)
        places = places * 2
    return place


def last_page_cell(folds):
    # The bottom leaf lies front up: its lower face, with the last page, is on the back.
    columns = column_count(folds)
    column = bottom_place([fold for fold in folds if is_sideways(fold)])
    row = bottom_place([fold for fold in folds if not is_sideways(fold)])
    return row * columns + columns - 1 - column


def comes_right(folds, front, back):
    last_page = 2 * len(back)
    # To fold all the paper costs much; the bottom leaf alone rules out nearly all rows of folds.
    if back[last_page_cell(folds)][0] != last_page:
        return False
    job = Job(folds, 1, last_page)
    return side_cells(job, 0, 0, FRONT) == front and side_cells(job, 0, 0, BACK) == back


def found_rows(how_many, front, back):
    return [folds for folds in rows_in_order(how_many) if comes_right(folds, front, back)]
