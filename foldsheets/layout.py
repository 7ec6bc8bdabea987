"""Where the pages stand on the flat sheets, and which way up."""

from foldsheets.jobs import LEFT, RIGHT, cell_count, section_pages, spine

FRONT = 0
BACK = 1
UPPER = 0


def face_or_side(leaf, which):
    # Front and upper face are 0, back and lower face 1: so one rule leads from a side to its face and back.
    return which if leaf.front == 1 else 1 - which


def upside_down(job, leaf, face):
    # About a spine at the top or bottom a lower face is turned head over heels as it is read.
    if face == UPPER or spine(job) in (LEFT, RIGHT):
        return leaf.turned
    return 1 - leaf.turned


def seen_column(job, leaf, side):
    return leaf.column if side == FRONT else job.columns - 1 - leaf.column


def book_page(job, section, number, face):
    page = section * section_pages(job) + 2 * number + face + 1
    return page if page <= job.pages else 0


def side_cells(job, section, sheet, side):
    cells = [(0, 0)] * cell_count(job)
    for number, leaf in enumerate(job.leaves):
        if leaf.sheet == sheet:
            face = face_or_side(leaf, side)
            cell = leaf.row * job.columns + seen_column(job, leaf, side)
            cells[cell] = (book_page(job, section, number, face), upside_down(job, leaf, face))
    return cells


def half_turned(cells):
    # A back turned over from top to bottom is the one turned over sideways, given half a turn.
    return [(page, 1 - upside) for page, upside in reversed(cells)]


def seen_cells(job, section, sheet, side, way):
    cells = side_cells(job, section, sheet, side)
    if side == BACK and way == 1:
        return half_turned(cells)
    return cells


def first_difference(cells, others):
    for number, cell in enumerate(cells):
        if cell != others[number]:
            return number
    return None


def page_place(job, page):
    section = (page - 1) // section_pages(job)
    within = (page - 1) % section_pages(job)
    leaf = job.leaves[within // 2]
    face = within % 2
    side = face_or_side(leaf, face)
    return [section, leaf.sheet, side, seen_column(job, leaf, side), leaf.row, upside_down(job, leaf, face)]
