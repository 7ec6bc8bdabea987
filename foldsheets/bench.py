"""The bench: the object that the calls are made on."""

from foldsheets.folding import grid_behind
from foldsheets.jobs import Job, blank_count, is_job, section_count, section_pages
from foldsheets.joints import joints
from foldsheets.layout import page_place, seen_cells
from foldsheets.reading import FIND, JOB, JOINED, LEAST, PAGE, SIDE, SIZES, STACK

DONE = 0
WRONG_NUMBERS = -1
NO_JOB = -8


class CallNotBuilt(Exception):
    pass


class Bench:
    def __init__(self):
        self.job = None

    def answer(self, call):
        if call.number == JOB:
            return self.take_job(call.lists[0], call.numbers[0], call.numbers[1])
        if self.job is None and needs_job(call.number):
            return [NO_JOB]
        return told(self.job, call.number, call.numbers)

    def take_job(self, folds, sheets, pages):
        if not is_job(folds, sheets, pages):
            return [WRONG_NUMBERS]
        self.job = Job(folds, sheets, pages)
        return [DONE]


def needs_job(number):
    return number not in (JOB, FIND, LEAST)


def told(job, number, numbers):
    if number == SIZES:
        return sizes(job)
    if number == SIDE:
        return side(job, numbers[0], numbers[1], numbers[2], numbers[3])
    if number == PAGE:
        return page(job, numbers[0])
    if number == STACK:
        return stack(job, numbers[0], numbers[1], numbers[2])
    if number == JOINED:
        return joined(job)
    raise CallNotBuilt(f"call {number}")


def sizes(job):
    return [
        job.columns,
        job.rows,
        len(job.leaves),
        section_pages(job),
        section_count(job),
        blank_count(job),
    ]


def is_side(job, section, sheet, which):
    return section < section_count(job) and sheet < job.sheets and which <= 1


def side(job, section, sheet, which, way):
    if not is_side(job, section, sheet, which) or way > 1:
        return [WRONG_NUMBERS]
    cells = seen_cells(job, section, sheet, which, way)
    answer = [len(cells)]
    for cell in cells:
        answer.extend(cell)
    return answer


def page(job, number):
    if number < 1 or number > job.pages:
        return [WRONG_NUMBERS]
    return page_place(job, number)


def stack(job, how_many, column, row):
    if how_many > len(job.folds):
        return [WRONG_NUMBERS]
    grid = grid_behind(job.folds, job.sheets, how_many)
    if row >= len(grid) or column >= len(grid[0]):
        return [WRONG_NUMBERS]
    pile = grid[row][column]
    answer = [len(pile)]
    for leaf in pile:
        answer.extend([leaf.sheet, leaf.column, leaf.row, leaf.front, leaf.turned])
    return answer


def joined(job):
    found = joints(job.leaves)
    answer = [len(found)]
    for each in found:
        answer.extend(each)
    return answer
