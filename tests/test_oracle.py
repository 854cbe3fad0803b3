"""Many made texts and sheets, each held against the oracle. The seeds are fixed, so every run is the same."""

import random
import unittest

import oracle
from ringsheet.sheet import answers
from support import copy_call, get_call, needs_call, retold, run, set_call, split, text_call

SIGNS = ("+", "-", "*", "/", "%", "=", "<>", "<", "<=", ">", ">=")
NUMBERS = ("0", "1", "2", "007", "10", "922337203685477580", "-999999999999999999", "-4")
LEAVES = ("0", "0", "1", "2", "003", "10", "922337203685477580*10", "922337203685477580*10", "-922337203685477580*10")


def made_reference(source, rows=5, columns=4):
    column = source.choice("ABCDEFGHIJKLMNOP"[:columns])
    return f"{source.choice(('', '$'))}{column}{source.choice(('', '$'))}{source.randint(1, rows)}"


def made_part(source, depth):
    if source.random() < 0.4:
        return f"{made_reference(source)}:{made_reference(source)}"
    return made_formula(source, depth)


def made_formula(source, depth):
    """A comparison, at times with more brackets than it needs; it may hold comparisons in a row, which is no formula."""
    if depth == 0:
        return source.choice(LEAVES) if source.random() < 0.5 else made_reference(source)
    pick = source.randrange(8)
    if pick < 3:
        return f"{made_formula(source, depth - 1)}{source.choice(SIGNS)}{made_formula(source, depth - 1)}"
    if pick < 5:
        return f"({made_formula(source, depth - 1)})"
    if pick == 5:
        return f"-{made_formula(source, depth - 1)}"
    if pick == 6:
        return f"IF({','.join(made_formula(source, depth - 1) for _ in range(3))})"
    parts = [made_part(source, depth - 1) for _ in range(source.randint(1, 3))]
    return f"{source.choice(('SUM', 'MIN', 'MAX', 'COUNT'))}({','.join(parts)})"


def made_text(source, depth=None):
    """A whole text that the grammar has."""
    while True:
        text = "=" + made_formula(source, source.randint(0, 4) if depth is None else depth)
        if len(text) <= 127 and oracle.judged(text.encode()) == 0:
            return text


def spoiled(source, text):
    data = list(text.encode())
    pool = b"=<>+-*/%(),:$0123456789ABCIMPSUFNXOTQ \xff"
    for _ in range(source.randint(1, 2)):
        place = source.randint(0, len(data))
        pick = source.randrange(3)
        if pick == 0:
            data = data[:place]
        elif pick == 1:
            data = data[:place] + [source.choice(pool)] + data[place:]
        else:
            data = data[:place] + [source.choice(pool)] + data[place + 1:]
    return data


class AgainstOracle(unittest.TestCase):
    def test_whole_and_spoiled_texts(self):
        source = random.Random(1)
        for _ in range(1500):
            text = "=" + made_formula(source, source.randint(0, 4))
            for data in (list(text.encode()), spoiled(source, text)):
                wanted = -5000 if len(data) > 127 else oracle.judged(data)
                self.assertEqual(run(set_call("A1", data)), [[wanted]], bytes(data))

    def test_texts_of_few_signs(self):
        source = random.Random(2)
        for _ in range(4000):
            data = list(b"=") * source.randint(0, 1) + [source.choice(b"=<>-+(),:$01A6SUMIF") for _ in range(source.randint(1, 9))]
            self.assertEqual(run(set_call("A1", data)), [[oracle.judged(data)]], bytes(data))

    def test_told_texts(self):
        source = random.Random(3)
        for _ in range(400):
            text = made_text(source)
            told = retold(text)
            self.assertEqual(told, oracle.told(text), text)
            self.assertEqual(oracle.parse(told), oracle.parse(text), text)

    def test_sheets(self):
        for seed in range(120):
            source = random.Random(1000 + seed)
            # Formulas name twenty cells: the fewer the sheet has, the more rings there are.
            self.check_sheet(source, depth=source.randint(1, 2), cells=source.choice((12, 20, 24, 64)))

    def some_cell(self, source, cells):
        number = source.randrange(cells)
        return number // 4 % 64 * 16 + number % 4

    def check_sheet(self, source, depth, cells):
        sheet = oracle.Sheet()
        calls = []
        wanted = []
        for _ in range(60):
            cell = self.some_cell(source, cells)
            other = self.some_cell(source, cells)
            pick = source.randrange(9)
            if pick < 5:
                text = source.choice(NUMBERS + ("",)) if source.random() < 0.35 else made_text(source, depth)
                sheet.set(cell, text)
                calls.append(set_call(cell, text))
                wanted.append([0])
            elif pick < 7:
                calls.append(copy_call(cell, other))
                wanted.append([sheet.copy(cell, other)])
            else:
                calls.append(get_call(cell))
                wanted.append(sheet.get(cell))
                calls.append(needs_call(cell, other))
                wanted.append([sheet.needs(cell, other)])
        for cell in list(sheet.cells):
            calls.append(get_call(cell))
            wanted.append(sheet.get(cell))
            calls.append(text_call(cell))
            content = sheet.cells[cell]
            told = oracle.told("=" + oracle.spelled(content)) if isinstance(content, tuple) else str(content)
            wanted.append([len(told)] + list(told.encode()))
        done = split(answers([number for call in calls for number in call]))
        for call, answer, hoped in zip(calls, done, wanted, strict=True):
            self.assertEqual(answer, hoped, call)


if __name__ == "__main__":
    unittest.main()
