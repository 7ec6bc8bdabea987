"""The bench: the object that the calls are made on."""

from foldsheets.choosing import least_choice
from foldsheets.finding import found_rows
from foldsheets.folding import doubled, grid_behind
from foldsheets.jobs import (
    MOST_FOLDS, Job, blank_count, cell_count, is_book, is_job, is_page, section_count, section_pages,
)
from foldsheets.joints import joints, slit_joints
from foldsheets.layout import first_difference, page_place, seen_cells, side_cells
from foldsheets.reading import CREEP, FIND, JOB, JOINED, JUDGE, LEAST, PAGE, SIDE, SIZES, SLIT, STACK

DONE = 0
RIGHT_LAYOUT = 0
WRONG_LAYOUT = 1
NOTHING_BESIDE = 0
WRONG_NUMBERS = -1
WRONG_LISTS = -3
NO_JOB = -8


class Bench:
    def __init__(self):
        self.job = None

    def answer(self, call):
        if call.number == JOB:
            return self.take_job(call.lists[0], call.numbers[0], call.numbers[1])
        if call.number == FIND:
            return find(call.numbers[0], call.lists[0], call.lists[1], call.lists[2], call.lists[3])
        if call.number == LEAST:
            return least(call.numbers[0])
        if self.job is None:
            return [NO_JOB]
        return told(self.job, call.number, call.numbers, call.lists)

    def take_job(self, folds, sheets, pages):
        if not is_job(folds, sheets, pages):
            return [WRONG_NUMBERS]
        self.job = Job(folds, sheets, pages)
        return [DONE]


def told(job, number, numbers, lists):
    if number == SIZES:
        return sizes(job)
    if number == SIDE:
        return side(job, numbers[0], numbers[1], numbers[2], numbers[3])
    if number == PAGE:
        return page(job, numbers[0])
    if number == STACK:
        return stack(job, numbers[0], numbers[1], numbers[2])
    if number == JOINED:
        return counted(joints(job.leaves))
    if number == SLIT:
        return counted(slit_joints(job))
    if number == CREEP:
        return creep(job, numbers[0], numbers[1])
    if number == JUDGE:
        return judge(job, numbers[0], numbers[1], numbers[2], lists[0], lists[1])
    # The reader lets no other call through.
    return facing(job, numbers[0])


def counted(groups):
    answer = [len(groups)]
    for group in groups:
        answer.extend(group)
    return answer


def sizes(job):
    return [
        job.columns,
        job.rows,
        len(job.leaves),
        section_pages(job),
        section_count(job),
        blank_count(job),
    ]


def is_side(job, section, sheet, which):
    return section < section_count(job) and sheet < job.sheets and which <= 1


def side(job, section, sheet, which, way):
    if not is_side(job, section, sheet, which) or way > 1:
        return [WRONG_NUMBERS]
    return counted(seen_cells(job, section, sheet, which, way))


def page(job, number):
    if not is_page(job, number):
        return [WRONG_NUMBERS]
    return page_place(job, number)


def stack(job, how_many, column, row):
    if how_many > len(job.folds):
        return [WRONG_NUMBERS]
    grid = grid_behind(job.folds, job.sheets, how_many)
    if row >= len(grid) or column >= len(grid[0]):
        return [WRONG_NUMBERS]
    return counted([
        [leaf.sheet, leaf.column, leaf.row, leaf.front, leaf.turned]
        for leaf in grid[row][column]
    ])


def creep(job, number, thickness):
    if number >= len(job.leaves):
        return [WRONG_NUMBERS]
    return [thickness * min(number, len(job.leaves) - 1 - number)]


def is_layout(pages, marks, cells):
    # The lengths are asked first: a list of many thousands is not gone through.
    if len(pages) != cells or len(marks) != cells:
        return False
    return all([mark <= 1 for mark in marks])


def judge(job, section, sheet, which, pages, marks):
    if not is_side(job, section, sheet, which):
        return [WRONG_NUMBERS]
    if not is_layout(pages, marks, cell_count(job)):
        return [WRONG_LISTS]
    cell = first_difference(side_cells(job, section, sheet, which), list(zip(pages, marks)))
    return [RIGHT_LAYOUT] if cell is None else [WRONG_LAYOUT, cell]


def find(how_many, front_pages, front_marks, back_pages, back_marks):
    if how_many > MOST_FOLDS:
        return [WRONG_NUMBERS]
    cells = doubled(1, how_many)
    if not is_layout(front_pages, front_marks, cells) or not is_layout(back_pages, back_marks, cells):
        return [WRONG_LISTS]
    front = list(zip(front_pages, front_marks))
    back = list(zip(back_pages, back_marks))
    return counted(found_rows(how_many, front, back))


def least(pages):
    if not is_book(pages):
        return [WRONG_NUMBERS]
    return list(least_choice(pages))


def facing(job, number):
    if not is_page(job, number):
        return [WRONG_NUMBERS]
    beside = number + 1 if number % 2 == 0 else number - 1
    return [beside if is_page(job, beside) else NOTHING_BESIDE]
