"""Formulas as they are kept: a list of items, each behind the items of its parts.

So a formula of any depth is gone through by one loop with a stack. The items:
("number", n), ("reference", r), ("range", r, r), ("negation",), ("sign", name), ("function", name, how many parts).
"""

from ringsheet.references import cell_of, cells_between, moved_reference


class Formula:
    """A formula's items, and the cells that they name, each once."""

    def __init__(self, code):
        self.code = code
        self.needed = needed_cells(code)


def needed_cells(code):
    needed = {}
    for item in code:
        if item[0] == "reference":
            needed[cell_of(item[1])] = True
        elif item[0] == "range":
            for cell in cells_between(item[1], item[2]):
                needed[cell] = True
    return needed


def moved_item(item, right, down):
    if item[0] == "reference":
        return ("reference", moved_reference(item[1], right, down))
    if item[0] == "range":
        return ("range", moved_reference(item[1], right, down), moved_reference(item[2], right, down))
    return item


def moved_formula(formula, right, down):
    return Formula([moved_item(item, right, down) for item in formula.code])
