"""Leaves, and how folds bring them to lie on one another.

A pile is a list of leaves from the top; a line is a list of piles from the left; a grid is a list of lines
from the top.
"""


class Leaf:
    def __init__(self, sheet, column, row, front, turned):
        self.sheet = sheet
        self.column = column
        self.row = row
        self.front = front
        self.turned = turned


def is_sideways(fold):
    return fold < 2


def doubled(number, times):
    found = number
    for step in range(times):
        found = found * 2
    return found


def column_count(folds):
    return doubled(1, len([fold for fold in folds if is_sideways(fold)]))


def row_count(folds):
    return doubled(1, len([fold for fold in folds if not is_sideways(fold)]))


def flat_pile(sheets, column, row):
    return [Leaf(sheet, column, row, 1, 0) for sheet in range(sheets)]


def flat_line(sheets, columns, row):
    return [flat_pile(sheets, column, row) for column in range(columns)]


def flat_grid(sheets, columns, rows):
    return [flat_line(sheets, columns, row) for row in range(rows)]


def turned_over(leaf, fold):
    # Sideways a leaf swings about an upright line, so its top edge keeps its direction.
    turned = leaf.turned if is_sideways(fold) else 1 - leaf.turned
    return Leaf(leaf.sheet, leaf.column, leaf.row, 1 - leaf.front, turned)


def laid_over(moving, resting, fold):
    # A pile that is turned over has its lowest leaf on top.
    return [turned_over(leaf, fold) for leaf in reversed(moving)] + resting


def moving_place(fold, half, place):
    # The half that moves is mirrored; it has the lower numbers in folds 0 and 2, the higher ones in 1 and 3.
    return half - 1 - place if fold % 2 == 0 else 2 * half - 1 - place


def resting_place(fold, half, place):
    return half + place if fold % 2 == 0 else place


def folded_line(line, fold):
    half = len(line) // 2
    return [
        laid_over(line[moving_place(fold, half, place)], line[resting_place(fold, half, place)], fold)
        for place in range(half)
    ]


def line_over_line(moving, resting, fold):
    return [laid_over(over, under, fold) for over, under in zip(moving, resting)]


def folded_grid(grid, fold):
    if is_sideways(fold):
        return [folded_line(line, fold) for line in grid]
    half = len(grid) // 2
    return [
        line_over_line(grid[moving_place(fold, half, place)], grid[resting_place(fold, half, place)], fold)
        for place in range(half)
    ]


def grid_behind(folds, sheets, how_many):
    # The flat sheet has the cells of all the folds, however few of them are made yet.
    grid = flat_grid(sheets, column_count(folds), row_count(folds))
    for fold in folds[:how_many]:
        grid = folded_grid(grid, fold)
    return grid


def section_leaves(folds, sheets):
    return grid_behind(folds, sheets, len(folds))[0][0]
