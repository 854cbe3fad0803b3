"""Promise 5: whether one can come from a cell to another."""

import unittest

from support import copy_call, fill, get_call, needs_call, run, set_call


class Needs(unittest.TestCase):
    def check(self, cells, *wanted):
        done = run(*fill(cells), *[needs_call(cell, other) for cell, other, _ in wanted])
        self.assertEqual(done[len(cells):], [[answer] for _, _, answer in wanted])

    def test_itself(self):
        self.check({"A1": "=B1"}, ("A1", "A1", 0))
        self.check({"A1": "=A1"}, ("A1", "A1", 1))
        self.check({"A1": "=B1", "B1": "=A1"}, ("A1", "A1", 1), ("B1", "B1", 1), ("C1", "C1", 0))
        self.check({"A1": "=B1", "B1": "=B1"}, ("A1", "A1", 0), ("A1", "B1", 1), ("B1", "B1", 1), ("B1", "A1", 0))
        self.check({"B2": "=SUM(A1:C3)"}, ("B2", "B2", 1))

    def test_one_step(self):
        self.check({"A1": "=B1+$C$2"}, ("A1", "B1", 1), ("A1", "C2", 1), ("A1", "D1", 0), ("B1", "A1", 0), ("A1", "B2", 0))

    def test_many_steps(self):
        cells = {"A1": "=B1", "B1": "=C1", "C1": "=D1", "D1": "=E1", "F1": "=A1"}
        self.check(cells, ("A1", "C1", 1), ("A1", "E1", 1), ("F1", "E1", 1), ("C1", "A1", 0), ("A1", "F1", 0), ("D1", "C1", 0))

    def test_round_a_ring(self):
        cells = {"A1": "=B1", "B1": "=C1", "C1": "=A1", "D1": "=A1", "E1": "=F1"}
        self.check(cells, ("A1", "C1", 1), ("C1", "B1", 1), ("D1", "C1", 1), ("A1", "D1", 0), ("D1", "D1", 0), ("A1", "F1", 0))

    def test_through_ranges(self):
        cells = {"A1": "=SUM(B2:D4)", "C3": "=COUNT(F6:E5)", "F5": "=$H$1"}
        self.check(cells, ("A1", "B2", 1), ("A1", "D4", 1), ("A1", "C3", 1), ("A1", "E2", 0), ("A1", "B5", 0), ("A1", "E5", 1),
                   ("A1", "E6", 1), ("A1", "F6", 1), ("A1", "H1", 1), ("C3", "H1", 1), ("C3", "A1", 0), ("A1", "A1", 0))

    def test_every_cell_of_a_range(self):
        wanted = [("P64", cell, int(1 <= cell // 16 <= 2 and 1 <= cell % 16 <= 3)) for cell in range(64)]
        for corners in ("B2:D3", "D3:B2", "B3:D2", "D2:B3"):
            self.check({"P64": f"=MIN({corners})"}, *wanted)

    def test_through_the_part_of_an_if_that_does_not_count(self):
        cells = {"A1": "=IF(1,B1,C1)", "C1": "=IF(0,D1,2)", "E1": "=IF(F1,1,2)"}
        self.check(cells, ("A1", "B1", 1), ("A1", "C1", 1), ("A1", "D1", 1), ("C1", "D1", 1), ("E1", "F1", 1), ("A1", "F1", 0))

    def test_behind_errors(self):
        self.check({"A1": "=1/0+B1", "B1": "=1/0*C1"}, ("A1", "B1", 1), ("A1", "C1", 1))

    def test_empty_cells_and_numbers(self):
        self.check({"A1": "5", "B1": "=A1+C1", "D1": "=2+3"}, ("A1", "A1", 0), ("A1", "B1", 0), ("B1", "A1", 1), ("B1", "C1", 1),
                   ("C1", "C1", 0), ("C1", "A1", 0), ("D1", "A1", 0), ("D1", "D1", 0), ("P64", "A1", 0))

    def test_needs_follow_changes(self):
        done = run(set_call("A1", "=B1"), set_call("B1", "=C1"), needs_call("A1", "C1"), set_call("B1", "5"), needs_call("A1", "C1"),
                   needs_call("A1", "B1"), set_call("A1", ""), needs_call("A1", "B1"), copy_call("B1", "A1"), get_call("A1"))
        self.assertEqual(done[2:], [[1], [0], [0], [1], [0], [0], [0], [0, 5]])


if __name__ == "__main__":
    unittest.main()
