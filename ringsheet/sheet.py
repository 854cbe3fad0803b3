"""A sheet of cells, and the calls on it."""

from ringsheet.formulas import Formula, moved_formula
from ringsheet.operations import RING
from ringsheet.reading import Misplaced, read_content
from ringsheet.references import COLUMNS, OffSheet, is_cell
from ringsheet.telling import told_content
from ringsheet.working import Worths, worth_of_formula

REFUSED = -5000
LEFT_SHEET = -1
EMPTY = 4
LONGEST_TEXT = 127
GREATEST_MOST = 1024

SET = 1
GET = 2
TEXT = 3
COPY = 4


class Sheet:
    """What the cells have (empty ones are left out), and what is known of their worths since the last change."""

    def __init__(self):
        self.contents = {}
        self.known = Worths()

    def put(self, cell, content):
        if content is None:
            self.contents.pop(cell, None)
        else:
            self.contents[cell] = content
        self.known = Worths()

    def filled_needs(self, cell):
        """The cells, empty ones left out, that the cell's formula names."""
        content = self.contents[cell]
        if not isinstance(content, Formula):
            return []
        return [other for other in content.needed if other in self.contents]

    def worth_from_needs(self, cell):
        content = self.contents[cell]
        if isinstance(content, Formula):
            return worth_of_formula(content, self.known)
        return (0, content)

    def work_out(self, start):
        """Makes known what the cell is worth, and of all that it needs as much as that takes."""
        path = [start]
        still_to_go = {start: self.filled_needs(start)}
        while path:
            cell = path[-1]
            if not still_to_go[cell]:
                self.known.cells[cell] = self.worth_from_needs(cell)
                path.pop()
                continue
            other = still_to_go[cell].pop()
            if other not in self.known.cells and other not in still_to_go:
                path.append(other)
                still_to_go[other] = self.filled_needs(other)
            elif self.known.cells.get(other, RING) == RING:
                # One that is not known yet lies on the path itself: either way all of the path leads to a ring.
                for passed in path:
                    self.known.cells[passed] = RING
                return

    def comes_to(self, start, goal):
        """Whether one can come from start to goal, from needed cell to needed cell, in one step or more."""
        if start not in self.contents:
            return False
        todo = [start]
        seen = {start: True}
        while todo:
            content = self.contents[todo.pop()]
            if not isinstance(content, Formula):
                continue
            if goal in content.needed:
                return True
            onward = [cell for cell in content.needed if cell in self.contents and cell not in seen]
            for cell in onward:
                seen[cell] = True
            todo.extend(onward)
        return False

    def set_cell(self, cell, text):
        if not is_cell(cell) or len(text) > LONGEST_TEXT:
            return [REFUSED]
        try:
            content = read_content(text)
        except Misplaced as refusal:
            return [-1 - refusal.place]
        self.put(cell, content)
        return [0]

    def get_cell(self, cell):
        if not is_cell(cell):
            return [REFUSED]
        if cell not in self.contents:
            return [EMPTY]
        if cell not in self.known.cells:
            self.work_out(cell)
        worth = self.known.cells[cell]
        return [0, worth[1]] if worth[0] == 0 else [worth[0]]

    def tell_cell(self, cell, most):
        if not is_cell(cell) or most < 0 or most > GREATEST_MOST:
            return [REFUSED]
        told = told_content(self.contents.get(cell))
        if len(told) > most:
            return [len(told)]
        return [len(told)] + told

    def copy_cell(self, source, goal):
        if not is_cell(source) or not is_cell(goal):
            return [REFUSED]
        content = self.contents.get(source)
        if isinstance(content, Formula):
            right = goal % COLUMNS - source % COLUMNS
            down = goal // COLUMNS - source // COLUMNS
            try:
                content = moved_formula(content, right, down)
            except OffSheet:
                return [LEFT_SHEET]
        self.put(goal, content)
        return [0]

    def needs_cell(self, cell, other):
        if not is_cell(cell) or not is_cell(other):
            return [REFUSED]
        return [1 if self.comes_to(cell, other) else 0]


def answer_to(sheet, call):
    """What the sheet answers to one call: its number, then all that is handed in with it."""
    if call[0] == SET:
        return sheet.set_cell(call[1], call[3:])
    if call[0] == GET:
        return sheet.get_cell(call[1])
    if call[0] == TEXT:
        return sheet.tell_cell(call[1], call[2])
    if call[0] == COPY:
        return sheet.copy_cell(call[1], call[2])
    return sheet.needs_cell(call[1], call[2])


def length_of_call(calls, place):
    if calls[place] == SET:
        return 3 + calls[place + 2]
    if calls[place] == GET:
        return 2
    return 3


def answers(calls):
    """What is answered to each call on a new sheet, in order, with how many numbers it has before it."""
    sheet = Sheet()
    told = []
    place = 0
    while place < len(calls):
        behind = place + length_of_call(calls, place)
        answer = answer_to(sheet, calls[place:behind])
        told.append(len(answer))
        told.extend(answer)
        place = behind
    return told
