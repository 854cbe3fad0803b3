"""References to cells: their numbers, the ranges between them, how they move and how they are told."""

from ringsheet.signs import DOLLAR, LETTER_A, spelled

ROWS = 64
COLUMNS = 16
CELLS = 1024


class OffSheet(Exception):
    """A reference that would leave the sheet."""


class Reference:
    """A column and a row, both from 0 on, and whether each has a $ before it."""

    def __init__(self, column, column_fixed, row, row_fixed):
        self.column = column
        self.column_fixed = column_fixed
        self.row = row
        self.row_fixed = row_fixed


def is_cell(number):
    return 0 <= number < CELLS


def cell_of(reference):
    return reference.row * COLUMNS + reference.column


def cells_between(first, last):
    """All cells of a range, row by row from the top, in each row from the left, however its ends are given."""
    left = min(first.column, last.column)
    right = max(first.column, last.column)
    top = min(first.row, last.row)
    bottom = max(first.row, last.row)
    cells = []
    for row in range(top, bottom + 1):
        start = row * COLUMNS
        cells.extend([start + column for column in range(left, right + 1)])
    return cells


def moved_along(position, fixed, steps, positions):
    if fixed:
        return position
    goal = position + steps
    if goal < 0 or goal >= positions:
        raise OffSheet()
    return goal


def moved_reference(reference, right, down):
    column = moved_along(reference.column, reference.column_fixed, right, COLUMNS)
    row = moved_along(reference.row, reference.row_fixed, down, ROWS)
    return Reference(column, reference.column_fixed, row, reference.row_fixed)


def dollar_if(fixed):
    return [DOLLAR] if fixed else []


def told_reference(reference):
    column = dollar_if(reference.column_fixed) + [LETTER_A + reference.column]
    row = dollar_if(reference.row_fixed) + spelled(str(reference.row + 1))
    return column + row
