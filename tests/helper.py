"""What the tests share: writing calls, taking answers apart, and a paper section folded in space."""

from itertools import product

from foldsheets.desk import answers

HIGHEST = 18446744073709551615


def job(folds, sheets, pages):
    return [1, sheets, pages, len(folds)] + list(folds)


def sizes():
    return [2]


def side(section, sheet, which, way):
    return [3, section, sheet, which, way]


def page(number):
    return [4, number]


def stack(how_many, column, row):
    return [5, how_many, column, row]


def joined():
    return [6]


def slit():
    return [7]


def creep(leaf, thickness):
    return [8, leaf, thickness]


def with_count(numbers):
    return [len(numbers)] + list(numbers)


def judge(section, sheet, which, pages, marks):
    return [9, section, sheet, which] + with_count(pages) + with_count(marks)


def find(how_many, *lists):
    return [10, how_many] + [number for each in lists for number in with_count(each)]


def least(pages):
    return [11, pages]


def facing(number):
    return [12, number]


def taken_apart(given):
    found = []
    at = 0
    while at < len(given):
        found.append(given[at + 1:at + 1 + given[at]])
        at += 1 + given[at]
    assert at == len(given), "an answer is shorter than told"
    return found


def ask(*calls):
    """The answers to these calls on one new object, a list each."""
    return taken_apart(answers([number for call in calls for number in call]))


def ask_of(folds, sheets, pages, *calls):
    """The answers to these calls behind a job that has to be taken."""
    found = ask(job(folds, sheets, pages), *calls)
    assert found[0] == [0], f"refused: {folds} {sheets} {pages}"
    return found[1:]


def groups(answer, width):
    """What a list that is answered holds, a tuple each; its count has to be right."""
    rest = answer[1:]
    assert len(rest) == answer[0] * width, f"count {answer[0]} of {len(rest)} numbers"
    return [tuple(rest[at:at + width]) for at in range(0, len(rest), width)]


def rows_of_folds(most):
    for length in range(most + 1):
        for folds in product(range(4), repeat=length):
            yield list(folds)


def rows_of(length):
    """Every row of just so many folds, in order."""
    return [list(folds) for folds in product(range(4), repeat=length)]


def layout(answer):
    """What side answers, as two lists: the pages, the marks."""
    cells = groups(answer, 2)
    return [page for page, mark in cells], [mark for page, mark in cells]


def sheet_layout(folds):
    """A sheet's front and back as find takes them, from a book that just fills one section of one sheet."""
    front, back = ask_of(folds, 1, 2 * 2 ** len(folds), side(0, 0, 0, 0), side(0, 0, 1, 0))
    return (*layout(front), *layout(back))


class Piece:
    """One leaf in space: x to the right, y away from who folds, z up. A cell is 2 wide and 2 high."""

    def __init__(self, sheet, column, row, x, y, z):
        self.sheet, self.column, self.row = sheet, column, row
        self.flat = (x, y)
        self.x, self.y, self.z = x, y, z
        # Where the flat sheet's right and top edges' directions show now.
        self.right, self.top = 1, 1

    def front_up(self):
        return 1 if self.right * self.top == 1 else 0

    def turned(self):
        return 1 if self.top == -1 else 0

    def told(self):
        return (self.sheet, self.column, self.row, self.front_up(), self.turned())


class Paper:
    """A section as paper in space, each fold a mirror: another way to the answers than the program's."""

    def __init__(self, folds, sheets, made=None):
        self.width = 2 * 2 ** sum(fold < 2 for fold in folds)
        self.height = 2 * 2 ** sum(fold >= 2 for fold in folds)
        self.low_x, self.high_x, self.low_y, self.high_y = 0, self.width, 0, self.height
        self.spine = folds[-1] if folds else 0
        self.pieces = [
            Piece(sheet, column, row, 2 * column + 1, self.height - 2 * row - 1, -sheet)
            for sheet in range(sheets)
            for column in range(self.width // 2)
            for row in range(self.height // 2)
        ]
        for fold in folds[:len(folds) if made is None else made]:
            self.fold(fold)

    def fold(self, fold):
        top = max(piece.z for piece in self.pieces)
        middle_x = (self.low_x + self.high_x) // 2
        middle_y = (self.low_y + self.high_y) // 2
        for piece in self.pieces:
            if (piece.x < middle_x, piece.x > middle_x, piece.y > middle_y, piece.y < middle_y)[fold]:
                piece.z = 2 * top + 1 - piece.z
                if fold < 2:
                    piece.x, piece.right = 2 * middle_x - piece.x, -piece.right
                else:
                    piece.y, piece.top = 2 * middle_y - piece.y, -piece.top
        if fold == 0:
            self.low_x = middle_x
        elif fold == 1:
            self.high_x = middle_x
        elif fold == 2:
            self.high_y = middle_y
        else:
            self.low_y = middle_y

    def grid(self):
        """How many columns and rows there are now."""
        return ((self.high_x - self.low_x) // 2, (self.high_y - self.low_y) // 2)

    def pile(self, column, row):
        x = self.low_x + 2 * column + 1
        y = self.high_y - 2 * row - 1
        found = [piece for piece in self.pieces if (piece.x, piece.y) == (x, y)]
        return sorted(found, key=lambda piece: -piece.z)

    def printed(self):
        """Of each page of the section, in order: its piece, 0 for front or 1 for back, 1 if upright else -1."""
        found = []
        for piece in self.pile(0, 0):
            above = 0 if piece.front_up() else 1
            # A leaf that is turned about a spine at the top or bottom shows what was near as far.
            swung = 1 if self.spine < 2 else -1
            found.append((piece, above, piece.top))
            found.append((piece, 1 - above, piece.top * swung))
        return found

    def side(self, sheet, which, way):
        """Of each cell as that side is seen: the section's page, 1 if it's upside down."""
        seen = []
        for number, (piece, where, upright) in enumerate(self.printed(), start=1):
            if (piece.sheet, where) == (sheet, which):
                x, y = piece.flat
                if which == 1 and way == 0:
                    x = self.width - x
                if which == 1 and way == 1:
                    y, upright = self.height - y, -upright
                seen.append((-y, x, number, 1 if upright == -1 else 0))
        return [(number, upside) for _, _, number, upside in sorted(seen)]

    def joints(self):
        pile = self.pile(0, 0)
        found = []
        for upper, one in enumerate(pile):
            for lower in range(upper + 1, len(pile)):
                other = pile[lower]
                step = (other.flat[0] - one.flat[0], other.flat[1] - one.flat[1])
                if one.sheet == other.sheet and abs(step[0]) + abs(step[1]) == 2:
                    shown = (step[0] * one.right, step[1] * one.top)
                    edge = {(-2, 0): 0, (2, 0): 1, (0, 2): 2, (0, -2): 3}[shown]
                    found.append((upper, lower, edge))
        return found
