"""What a text says: nothing, a number or a formula; or the first place where it goes wrong."""

from ringsheet.formulas import Formula
from ringsheet.operations import ADDITION, COMPARISON, FACTOR, sign_at, spelling_of, tightness_of
from ringsheet.references import COLUMNS, ROWS, Reference
from ringsheet.signs import CLOSING, COLON, COMMA, DOLLAR, EQUALS, LETTER_A, MINUS, OPENING, ZERO
from ringsheet.signs import is_digit, spelled

MOST_DIGITS = 18
FUNCTIONS = ("IF", "SUM", "MIN", "MAX", "COUNT")
PARTS_OF_IF = 3

# Looser than every sign, so that no sign reaches out over a bracket.
BRACKET = 0

# Stands for the byte behind the last one; no byte is equal to it.
END = -1


class Misplaced(Exception):
    """A byte that can't stand at its place; behind the last byte, a text that ends too soon."""

    def __init__(self, place):
        self.place = place


def is_column(byte):
    return LETTER_A <= byte < LETTER_A + COLUMNS


class Reader:
    """Goes through a text from the left.

    `pending` holds what still waits for its right side, the newest last, as tuples: how tightly it binds; then for
    a sign its item, for a bracket the function's name ("" if there is none) and which of its parts is being read.
    """

    def __init__(self, text):
        self.text = text
        self.place = 0
        self.code = []
        self.pending = []

    def ahead(self):
        return self.text[self.place] if self.place < len(self.text) else END

    def passes(self, byte):
        """Whether that byte is ahead; if so, it is gone past."""
        if self.ahead() != byte:
            return False
        self.place += 1
        return True

    def shared_with(self, word):
        """How many of the word's signs are ahead."""
        shared = 0
        for byte in spelled(word):
            if self.text[self.place + shared:self.place + shared + 1] != [byte]:
                break
            shared += 1
        return shared

    def read_digits(self):
        start = self.place
        value = 0
        while is_digit(self.ahead()) and self.place - start < MOST_DIGITS:
            value = value * 10 + self.ahead() - ZERO
            self.place += 1
        if self.place == start:
            raise Misplaced(self.place)
        return value

    def read_column(self):
        letter = self.ahead()
        if not is_column(letter):
            raise Misplaced(self.place)
        self.place += 1
        return letter - LETTER_A

    def read_row(self):
        number = 0
        while is_digit(self.ahead()):
            number = number * 10 + self.ahead() - ZERO
            if number < 1 or number > ROWS:
                raise Misplaced(self.place)
            self.place += 1
        if number == 0:
            raise Misplaced(self.place)
        return number - 1

    def read_reference(self):
        column_fixed = self.passes(DOLLAR)
        column = self.read_column()
        row_fixed = self.passes(DOLLAR)
        row = self.read_row()
        return Reference(column, column_fixed, row, row_fixed)

    def at_start_of_part(self):
        """Whether a range may begin here: signs, minuses and plain brackets would be pending above the function."""
        if not self.pending or self.pending[-1][0] != BRACKET:
            return False
        return self.pending[-1][1] not in ("", "IF")

    def read_reference_or_range(self):
        range_allowed = self.at_start_of_part()
        first = self.read_reference()
        if range_allowed and self.passes(COLON):
            self.code.append(("range", first, self.read_reference()))
        else:
            self.code.append(("reference", first))

    def read_named(self):
        """A function's name, its bracket too, or a reference; whether a factor is still wanted then."""
        longest = 0
        for name in FUNCTIONS:
            shared = self.shared_with(name + "(")
            if shared > len(name):
                self.pending.append((BRACKET, name, 1))
                self.place += shared
                return True
            longest = max(longest, shared)
        # A letter may begin a name and a reference: only the byte behind it decides between them.
        if longest > 1 or (longest == 1 and not is_column(self.ahead())):
            raise Misplaced(self.place + longest)
        self.read_reference_or_range()
        return False

    def begin_factor(self):
        """Reads on where a factor is wanted; whether one is still wanted then."""
        if self.passes(MINUS):
            self.pending.append((FACTOR, ("negation",)))
            return True
        if self.passes(OPENING):
            self.pending.append((BRACKET, "", 1))
            return True
        if is_digit(self.ahead()):
            self.code.append(("number", self.read_digits()))
            return False
        return self.read_named()

    def finish_signs(self, loosest):
        """What binds as tightly as that, or more, has its right side now."""
        while self.pending and self.pending[-1][0] >= loosest:
            self.code.append(self.pending.pop()[1])

    def close_bracket(self):
        self.finish_signs(COMPARISON)
        if not self.pending:
            raise Misplaced(self.place)
        name = self.pending[-1][1]
        parts = self.pending[-1][2]
        if name == "IF" and parts < PARTS_OF_IF:
            raise Misplaced(self.place)
        if name != "":
            self.code.append(("function", name, parts))
        self.pending.pop()
        self.place += 1

    def begin_next_part(self):
        self.finish_signs(COMPARISON)
        if not self.pending or self.pending[-1][1] == "":
            raise Misplaced(self.place)
        name = self.pending[-1][1]
        parts = self.pending[-1][2]
        if name == "IF" and parts == PARTS_OF_IF:
            raise Misplaced(self.place)
        self.pending[-1] = (BRACKET, name, parts + 1)
        self.place += 1

    def read_sign(self):
        sign = sign_at(self.text, self.place)
        if sign is None or self.code[-1][0] == "range":
            raise Misplaced(self.place)
        tightness = tightness_of(sign)
        self.finish_signs(max(tightness, ADDITION))
        if tightness == COMPARISON and self.pending and self.pending[-1][0] == COMPARISON:
            raise Misplaced(self.place)
        self.pending.append((tightness, ("sign", sign)))
        self.place += len(spelling_of(sign))

    def go_on(self):
        """Reads on behind a factor or a range; whether a factor is wanted then."""
        if self.ahead() == CLOSING:
            self.close_bracket()
            return False
        if self.ahead() == COMMA:
            self.begin_next_part()
        else:
            self.read_sign()
        return True

    def read_formula(self):
        self.place += 1
        wanted = True
        while wanted or self.place < len(self.text):
            wanted = self.begin_factor() if wanted else self.go_on()
        self.finish_signs(COMPARISON)
        if self.pending:
            raise Misplaced(self.place)
        return Formula(self.code)

    def read_number(self):
        negative = self.passes(MINUS)
        value = self.read_digits()
        if self.place < len(self.text):
            raise Misplaced(self.place)
        return -value if negative else value


def read_content(text):
    """None for a cell that is to be empty, a whole number, or a Formula."""
    if len(text) == 0:
        return None
    if text[0] == EQUALS:
        return Reader(text).read_formula()
    return Reader(text).read_number()
