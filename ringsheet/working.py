"""What formulas are worth, once all that they need is known."""

from ringsheet.operations import NOTHING, joined, negated, within_bounds
from ringsheet.references import cell_of, cells_between


class Worths:
    """What is known of cells that aren't empty, and of ranges by their two ends, as long as no cell changes."""

    def __init__(self):
        self.cells = {}
        self.ranges = {}


def worths_of_range(first, last, known):
    """The worths of all cells in it but the empty ones: those are passed over, and SUM loses nothing by it."""
    ends = (cell_of(first), cell_of(last))
    if ends not in known.ranges:
        # Kept, for a long range may stand in many formulas.
        known.ranges[ends] = [known.cells[cell] for cell in cells_between(first, last) if cell in known.cells]
    return known.ranges[ends]


def chosen(parts):
    """Of IF: the other part is worked out too, but nothing of it, not its error either, comes into the result."""
    if parts[0][0] != 0:
        return parts[0]
    return parts[1] if parts[0][1] != 0 else parts[2]


def all_worths(parts):
    """The worths of comparisons and ranges, in order; a range is a list of the worths of its cells."""
    worths = []
    for part in parts:
        if isinstance(part, list):
            worths.extend(part)
        else:
            worths.append(part)
    return worths


def summed_up(name, parts):
    worths = all_worths(parts)
    for worth in worths:
        if worth[0] != 0:
            return worth
    values = [worth[1] for worth in worths]
    if name == "SUM":
        return within_bounds(sum(values))
    if name == "MIN":
        return (0, min(values, default=0))
    if name == "MAX":
        return (0, max(values, default=0))
    return (0, len(values))


def worth_of_function(name, parts):
    if name == "IF":
        return chosen(parts)
    return summed_up(name, parts)


def worth_of_leaf(item, known):
    if item[0] == "number":
        return (0, item[1])
    if item[0] == "reference":
        return known.cells.get(cell_of(item[1]), NOTHING)
    return worths_of_range(item[1], item[2], known)


def worth_of_formula(formula, known):
    stack = []
    for item in formula.code:
        if item[0] == "sign":
            right = stack.pop()
            left = stack.pop()
            stack.append(joined(item[1], left, right))
        elif item[0] == "negation":
            stack.append(negated(stack.pop()))
        elif item[0] == "function":
            start = len(stack) - item[2]
            parts = stack[start:]
            stack = stack[:start] + [worth_of_function(item[1], parts)]
        else:
            stack.append(worth_of_leaf(item, known))
    return stack[0]
