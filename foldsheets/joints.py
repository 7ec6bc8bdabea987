"""Which leaves of a section are one piece of paper, and at which edge."""

from foldsheets.jobs import BOTTOM, LEFT, RIGHT, TOP, spine


def edge_on_the_right(leaf):
    # Front and turned are alike just behind an odd number of folds 0 and 1: left and right have changed then.
    return LEFT if leaf.front == leaf.turned else RIGHT


def edge_below(leaf):
    return TOP if leaf.turned == 1 else BOTTOM


def cell_of(leaf):
    return (leaf.sheet, leaf.column, leaf.row)


def numbers_by_cell(leaves):
    numbers = {}
    for number, leaf in enumerate(leaves):
        numbers[cell_of(leaf)] = number
    return numbers


def joint(one, other, edge):
    return (min(one, other), max(one, other), edge)


def joints(leaves):
    numbers = numbers_by_cell(leaves)
    found = []
    # Looking only to the right and below meets each joint once.
    for number, leaf in enumerate(leaves):
        right = numbers.get((leaf.sheet, leaf.column + 1, leaf.row))
        if right is not None:
            found.append(joint(number, right, edge_on_the_right(leaf)))
        below = numbers.get((leaf.sheet, leaf.column, leaf.row + 1))
        if below is not None:
            found.append(joint(number, below, edge_below(leaf)))
    return sorted(found)


def slit_joints(job):
    return [each for each in joints(job.leaves) if each[2] != spine(job)]
