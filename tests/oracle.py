"""The document once more, in another way: slow and recursive, to hold the program against.

Texts are judged by an Earley recognizer over the grammar as the document writes it, brackets are left out by trying,
rings are found by a transitive closure, and IF works out only the part that counts.
"""

import itertools

LEAST = -2 ** 63
GREATEST = 2 ** 63 - 1
FUNCTIONS = ("SUM", "MIN", "MAX", "COUNT")


def build_grammar():
    rules = {
        "text": [["number"], ["=", "comparison"]],
        "number": [["digits18"], ["-", "digits18"]],
        "comparison": [["sum"]] + [["sum", *sign, "sum"] for sign in ("=", "<>", "<", "<=", ">", ">=")],
        "sum": [["product"], ["sum", "+", "product"], ["sum", "-", "product"]],
        "product": [["factor"]] + [["product", sign, "factor"] for sign in "*/%"],
        "factor": [
            ["-", "factor"], ["digits18"], ["(", "comparison", ")"], ["reference"],
            ["I", "F", "(", "comparison", ",", "comparison", ",", "comparison", ")"],
        ] + [[*name, "(", "parts", ")"] for name in FUNCTIONS],
        "parts": [["part"], ["parts", ",", "part"]],
        "part": [["comparison"], ["range"]],
        "range": [["reference", ":", "reference"]],
        "reference": [[*a, "column", *b, "row"] for a in ("", "$") for b in ("", "$")],
        "column": [[letter] for letter in "ABCDEFGHIJKLMNOP"],
        "row": [list(str(row)) for row in range(1, 65)],
        "digit": [[digit] for digit in "0123456789"],
        "digits1": [["digit"]],
    }
    for size in range(2, 19):
        rules[f"digits{size}"] = [["digit"], ["digit", f"digits{size - 1}"]]
    return rules


GRAMMAR = build_grammar()


def completed(chart, start, name):
    for head, body, dot, origin in list(chart[start]):
        if dot < len(body) and body[dot] == name:
            yield (head, body, dot + 1, origin)


def grow(chart, place):
    todo = list(chart[place])
    while todo:
        head, body, dot, origin = todo.pop()
        if dot == len(body):
            new = list(completed(chart, origin, head))
        elif body[dot] in GRAMMAR:
            new = [(body[dot], tuple(rule), 0, place) for rule in GRAMMAR[body[dot]]]
        else:
            new = []
        for state in new:
            if state not in chart[place]:
                chart[place].add(state)
                todo.append(state)


def judged(data):
    """0 for a text of the grammar, else -1 less the place where it goes wrong; however long it is."""
    if not data:
        return 0
    chart = [{("text", tuple(rule), 0, 0) for rule in GRAMMAR["text"]}]
    grow(chart, 0)
    for place, byte in enumerate(data):
        sign = chr(byte)
        chart.append({
            (head, body, dot + 1, origin)
            for head, body, dot, origin in chart[place]
            if dot < len(body) and body[dot] == sign
        })
        if not chart[-1]:
            return -1 - place
        grow(chart, place + 1)
    if any(head == "text" and dot == len(body) for head, body, dot, origin in chart[-1]):
        return 0
    return -1 - len(data)


class Parser:
    """A well-formed formula's tree, by recursive descent; brackets leave no trace in it."""

    def __init__(self, text):
        self.text = text
        self.place = 1

    def take(self, *words):
        for word in words:
            if self.text.startswith(word, self.place):
                self.place += len(word)
                return word
        return None

    def comparison(self):
        left = self.sum()
        sign = self.take("<>", "<=", ">=", "<", ">", "=")
        return (sign, left, self.sum()) if sign else left

    def chain(self, part, signs):
        tree = part()
        while True:
            sign = self.take(*signs)
            if not sign:
                return tree
            tree = (sign, tree, part())

    def sum(self):
        return self.chain(self.product, "+-")

    def product(self):
        return self.chain(self.factor, "*/%")

    def digits(self):
        start = self.place
        while self.text[self.place:self.place + 1].isdigit():
            self.place += 1
        return int(self.text[start:self.place])

    def factor(self):
        if self.take("-"):
            return ("negation", self.factor())
        if self.take("("):
            tree = self.comparison()
            self.take(")")
            return tree
        if self.text[self.place].isdigit():
            return ("number", self.digits())
        name = self.take("IF(", "SUM(", "MIN(", "MAX(", "COUNT(")
        if not name:
            return self.reference()
        parts = [self.part()]
        while self.take(","):
            parts.append(self.part())
        self.take(")")
        return (name[:-1], *parts)

    def reference(self):
        column_fixed = bool(self.take("$"))
        column = ord(self.text[self.place]) - 65
        self.place += 1
        row_fixed = bool(self.take("$"))
        return ("reference", column, column_fixed, self.digits() - 1, row_fixed)

    def part(self):
        tree = self.comparison()
        if self.take(":"):
            return ("range", tree, self.reference())
        return tree


def parse(text):
    """The tree, or None if the text is no whole formula."""
    if judged(text.encode("ascii")) != 0 or not text.startswith("="):
        return None
    return Parser(text).comparison()


def without_zeros(text):
    """Zeros before a number are taken away; those within a number or a row stay."""
    kept = []
    for place, sign in enumerate(text):
        before = kept[-1] if kept else ""
        more = text[place + 1:place + 2].isdigit()
        if not (sign == "0" and more and not before.isdigit()):
            kept.append(sign)
    return "".join(kept)


def bracket_pairs(text):
    waiting = []
    for place, sign in enumerate(text):
        if sign == "(":
            waiting.append(place)
        elif sign == ")":
            start = waiting.pop()
            if not text[start - 1].isalpha():
                yield start, place


def told(text):
    """The text of a cell that was set to a text: each bracket is tried whether it can be left out."""
    if not text.startswith("="):
        return str(int(text)) if text else ""
    tree = parse(text)
    text = without_zeros(text)
    tried_all = False
    while not tried_all:
        tried_all = True
        for start, end in bracket_pairs(text):
            shorter = text[:start] + text[start + 1:end] + text[end + 1:]
            if parse(shorter) == tree:
                text = shorter
                tried_all = False
                break
    return text


def named(tree):
    """The cells that a tree names."""
    if tree[0] == "reference":
        return {tree[3] * 16 + tree[1]}
    if tree[0] == "range":
        return set(range_cells(tree))
    if tree[0] == "number":
        return set()
    return set(itertools.chain.from_iterable(named(part) for part in tree[1:]))


def range_cells(tree):
    columns = sorted((tree[1][1], tree[2][1]))
    rows = sorted((tree[1][3], tree[2][3]))
    return [row * 16 + column for row in range(rows[0], rows[1] + 1) for column in range(columns[0], columns[1] + 1)]


def moved(tree, right, down):
    """The tree moved, or None where one of its references leaves the sheet."""
    if tree[0] == "number":
        return tree
    if tree[0] == "reference":
        column = tree[1] if tree[2] else tree[1] + right
        row = tree[3] if tree[4] else tree[3] + down
        if not (0 <= column < 16 and 0 <= row < 64):
            return None
        return ("reference", column, tree[2], row, tree[4])
    parts = [moved(part, right, down) for part in tree[1:]]
    return None if None in parts else (tree[0], *parts)


def spelled(tree):
    """A tree as a text, with far too many brackets."""
    if tree[0] == "number":
        return str(tree[1])
    if tree[0] == "reference":
        signs = ["$" if tree[2] else "", chr(65 + tree[1]), "$" if tree[4] else "", str(tree[3] + 1)]
        return "".join(signs)
    parts = [spelled(part) for part in tree[1:]]
    if tree[0] == "range":
        return ":".join(parts)
    if tree[0] == "negation":
        return f"-({parts[0]})"
    if tree[0].isalpha():
        return f"{tree[0]}({','.join(parts)})"
    return f"({parts[0]}){tree[0]}({parts[1]})"


class Failure(Exception):
    pass


class Sheet:
    """Trees, numbers and nothing in cells."""

    def __init__(self):
        self.cells = {}

    def set(self, cell, text):
        self.cells.pop(cell, None)
        if text:
            self.cells[cell] = Parser(text).comparison() if text.startswith("=") else int(text)

    def copy(self, source, to):
        content = self.cells.get(source)
        if isinstance(content, tuple):
            content = moved(content, to % 16 - source % 16, to // 16 - source // 16)
            if content is None:
                return -1
        self.cells.pop(to, None)
        if content is not None:
            self.cells[to] = content
        return 0

    def closure(self):
        """From each formula's cell all that one can come to."""
        reach = {cell: named(tree) for cell, tree in self.cells.items() if isinstance(tree, tuple)}
        for middle in list(reach):
            for cell in reach:
                if middle in reach[cell]:
                    reach[cell] = reach[cell] | reach[middle]
        return reach

    def needs(self, cell, other):
        return int(other in self.closure().get(cell, ()))

    def get(self, cell):
        if cell not in self.cells:
            return [4]
        reach = self.closure()
        rings = {one for one in reach if one in reach[one]}
        if cell in rings or rings & reach.get(cell, set()):
            return [1]
        try:
            return [0, self.worth(cell, {})]
        except Failure as failure:
            return [failure.args[0]]

    def worth(self, cell, known):
        content = self.cells.get(cell, 0)
        if isinstance(content, int):
            return content
        if cell not in known:
            try:
                known[cell] = (0, self.value(content, known))
            except Failure as failure:
                known[cell] = (failure.args[0], 0)
        if known[cell][0]:
            raise Failure(known[cell][0])
        return known[cell][1]

    def value(self, tree, known):
        name = tree[0]
        if name == "number":
            return tree[1]
        if name == "reference":
            return self.worth(tree[3] * 16 + tree[1], known)
        if name == "negation":
            return bounded(-self.value(tree[1], known))
        if name == "IF":
            return self.value(tree[2] if self.value(tree[1], known) else tree[3], known)
        if name in FUNCTIONS:
            return self.function(name, tree[1:], known)
        return operate(name, self.value(tree[1], known), self.value(tree[2], known))

    def function(self, name, parts, known):
        values = []
        for part in parts:
            if part[0] == "range":
                values += [self.worth(cell, known) for cell in range_cells(part) if cell in self.cells]
            else:
                values.append(self.value(part, known))
        if name == "SUM":
            return bounded(sum(values))
        if name == "COUNT":
            return len(values)
        return (min if name == "MIN" else max)(values) if values else 0


def bounded(value):
    if not LEAST <= value <= GREATEST:
        raise Failure(3)
    return value


def operate(sign, left, right):
    if sign in "/%" and right == 0:
        raise Failure(2)
    if sign == "/" or sign == "%":
        size = abs(left) // abs(right)
        quotient = size if left * right >= 0 else -size
        return bounded(quotient if sign == "/" else left - quotient * right)
    if sign in "+-*":
        return bounded({"+": left + right, "-": left - right, "*": left * right}[sign])
    return int({
        "=": left == right, "<>": left != right, "<": left < right,
        "<=": left <= right, ">": left > right, ">=": left >= right,
    }[sign])
