"""Calls written by names, and answers split call by call."""

from ringsheet.sheet import answers

REFUSED = [-5000]
OUTSIDE = (-1, 1024, -2147483648, 2147483647)
LEAST = -2 ** 63
GREATEST = 2 ** 63 - 1

# Numbers have at most eighteen digits, so the ends of the range are worked out.
LEAST_TEXT = "(-922337203685477580*10-8)"
GREATEST_TEXT = "(922337203685477580*10+7)"


def number_of(cell):
    if isinstance(cell, int):
        return cell
    return (int(cell[1:]) - 1) * 16 + ord(cell[0]) - ord("A")


def set_call(cell, text):
    data = list(text) if isinstance(text, (bytes, list)) else list(text.encode("ascii"))
    return [1, number_of(cell), len(data)] + data


def get_call(cell):
    return [2, number_of(cell)]


def text_call(cell, most=1024):
    return [3, number_of(cell), most]


def copy_call(source, to):
    return [4, number_of(source), number_of(to)]


def needs_call(cell, other):
    return [5, number_of(cell), number_of(other)]


def split(told):
    parts = []
    place = 0
    while place < len(told):
        parts.append(told[place + 1:place + 1 + told[place]])
        place += 1 + told[place]
    return parts


def run(*calls):
    return split(answers([number for call in calls for number in call]))


def fill(cells):
    """The set calls of a dict from cells to texts."""
    return [set_call(cell, text) for cell, text in cells.items()]


def set_answer(text):
    return run(set_call("A1", text))[0][0]


def worth(formula, cells=None, at="P64"):
    """What get answers of a formula, the other cells being as given."""
    done = run(*fill(cells or {}), set_call(at, formula), get_call(at))
    if any(answer != [0] for answer in done[:-1]):
        raise AssertionError(f"a text was refused: {done}")
    return done[-1]


def retold(text):
    """The text of a cell that was set to a text."""
    done = run(set_call("A1", text), text_call("A1"))
    if done[0] != [0]:
        raise AssertionError(f"{text} was refused: {done}")
    if done[1][0] != len(done[1]) - 1:
        raise AssertionError(f"the count is wrong: {done}")
    return bytes(done[1][1:]).decode("ascii")
