"""All: -5000 comes first, a refusal is its number alone, and nothing changes."""

import unittest

from support import OUTSIDE, REFUSED, copy_call, fill, get_call, needs_call, run, set_call, text_call

FILLED = {"A1": "5", "B1": "=A1+1", "P64": "=1/0"}


def state(*calls):
    """What all cells are, in text and worth, behind the calls on a filled sheet; and what the calls answered."""
    asked = [call for cell in (0, 1, 2, 1023) for call in (text_call(cell), get_call(cell))]
    done = run(*fill(FILLED), *calls, *asked)
    return done[len(FILLED):len(FILLED) + len(calls)], done[len(FILLED) + len(calls):]


class Refusals(unittest.TestCase):
    def check(self, *calls, answer=REFUSED):
        untouched = state()[1]
        for call in calls:
            answered, left = state(call)
            self.assertEqual(answered, [answer], call)
            self.assertEqual(left, untouched, call)

    def test_cells_outside(self):
        for cell in OUTSIDE:
            self.check(
                set_call(cell, "1"), set_call(cell, ""), get_call(cell), text_call(cell, 10),
                copy_call(cell, "A1"), copy_call("A1", cell), copy_call(cell, cell),
                needs_call(cell, "A1"), needs_call("B1", cell), needs_call(cell, cell),
            )

    def test_first_and_last_cells_are_inside(self):
        for cell in (0, 1023):
            done = run(
                set_call(cell, "7"), get_call(cell), text_call(cell), copy_call(cell, cell),
                copy_call(5, cell), copy_call(cell, 5), needs_call(cell, 5), needs_call(5, cell),
            )
            self.assertEqual(done, [[0], [0, 7], [1, 55], [0], [0], [0], [0], [0]])

    def test_long_texts(self):
        for size in (128, 129, 200):
            for start in ("=", "", "x"):
                self.check(set_call("A1", start + "1" * (size - len(start))))
                self.check(set_call("A2", start + "(" * (size - len(start))))

    def test_the_longest_text(self):
        formula = "=" + "-" * 125 + "1"
        self.assertEqual(len(formula), 127)
        self.assertEqual(run(set_call("A1", formula), get_call("A1")), [[0], [0, -1]])
        self.assertEqual(run(set_call("A1", formula[:-1] + "-")), [[-128]])
        self.assertEqual(run(set_call("A1", "x" * 127)), [[-1]])

    def test_most(self):
        for most in (-1, 1025, -2147483648, 2147483647):
            self.check(text_call("A1", most), text_call("A2", most))
        for most in (0, 1024):
            self.assertEqual(run(text_call("A1", most)), [[0]])

    def test_it_comes_first(self):
        self.check(set_call(-1, "x"), set_call(1024, "="), set_call("A1", "x" * 128), set_call(-1, "x" * 200))
        self.check(set_call(1024, "=A1" + "+" * 125), copy_call("B1", -1), copy_call("B1", 1024))
        self.check(text_call(-1, -1), text_call(1024, 1025), get_call(1024), needs_call(-1, 1024))

    def test_other_refusals_change_nothing(self):
        self.check(set_call("A1", "x"), set_call("P64", "x"), set_call("C1", "x"), answer=[-1])
        self.check(copy_call("B1", "A1"), copy_call("B1", "A2"), answer=[-1])
        self.check(set_call("A1", "=1+"), set_call("B1", "123 "), answer=[-4])

    def test_a_refusal_takes_nothing_from_what_was_known(self):
        done = run(*fill(FILLED), get_call("B1"), set_call("A1", "6x"), get_call("B1"), copy_call("B1", "A1"),
                   get_call("B1"), set_call("A1", "6"), get_call("B1"))
        self.assertEqual(done[3:], [[0, 6], [-2], [0, 6], [-1], [0, 6], [0], [0, 7]])


if __name__ == "__main__":
    unittest.main()
