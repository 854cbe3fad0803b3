"""Promise 4: what a copy gets."""

import unittest

from support import copy_call, fill, get_call, needs_call, number_of, run, set_call, text_call


def copied(text, source, to):
    """The answer of copy, and the texts of both cells behind it; the cell to had 77."""
    calls = [set_call(source, text)]
    if number_of(source) != number_of(to):
        calls.append(set_call(to, "77"))
    done = run(*calls, copy_call(source, to), text_call(source), text_call(to))
    return done[-3], bytes(done[-2][1:]).decode(), bytes(done[-1][1:]).decode()


class Copies(unittest.TestCase):
    def check(self, text, source, to, wanted):
        self.assertEqual(copied(text, source, to), ([0], text, wanted))

    def leaves(self, text, source, to):
        self.assertEqual(copied(text, source, to), ([-1], text, "77"), (text, source, to))

    def test_each_dollar_in_each_direction(self):
        moves = {"F8": (0, 3), "F2": (0, -3), "H5": (2, 0), "D5": (-2, 0), "H8": (2, 3), "D2": (-2, -3), "H2": (2, -3), "D8": (-2, 3)}
        for to, (right, down) in moves.items():
            column = chr(ord("G") + right)
            row = 20 + down
            self.check("=G20", "F5", to, f"={column}{row}")
            self.check("=$G20", "F5", to, f"=$G{row}")
            self.check("=G$20", "F5", to, f"={column}$20")
            self.check("=$G$20", "F5", to, "=$G$20")

    def test_ranges(self):
        self.check("=SUM(B2:C3)", "A1", "B2", "=SUM(C3:D4)")
        self.check("=SUM($B2:C$3)", "A1", "C4", "=SUM($B5:E$3)")
        self.check("=SUM(B$2:$C3,D4)", "A1", "B4", "=SUM(C$2:$C6,E7)")
        self.check("=COUNT(C3:B2)", "B2", "A1", "=COUNT(B2:A1)")
        self.check("=SUM($A$1:A1)", "B1", "B2", "=SUM($A$1:A2)")

    def test_whole_formulas(self):
        self.check("=IF(A1<$A1,-B$2*3,SUM(C3,D4:E5)%(F6-7))", "A1", "B2", "=IF(B2<$A2,-C$2*3,SUM(D4,E5:F6)%(G7-7))")
        self.check("=1+2", "A1", "P64", "=1+2")

    def test_leaving_at_each_side(self):
        self.leaves("=A5", "C3", "B3")
        self.leaves("=P5", "C3", "D3")
        self.leaves("=C1", "C3", "C2")
        self.leaves("=C64", "C3", "C4")
        self.leaves("=A1", "B2", "A1")
        self.leaves("=B2", "P64", "A1")
        self.leaves("=B2", "A1", "P64")
        self.leaves("=1+SUM(2,A5)", "C3", "B3")
        self.leaves("=SUM(A5:C5)", "C3", "B3")
        self.leaves("=SUM(C5:P5)", "C3", "D3")
        self.leaves("=SUM(C5:C1)", "C3", "C2")
        self.leaves("=SUM(C64:C5)", "C3", "C4")
        self.leaves("=IF(1,2,A5)", "C3", "B3")

    def test_just_inside(self):
        self.check("=B5", "C3", "B3", "=A5")
        self.check("=O5", "C3", "D3", "=P5")
        self.check("=C2", "C3", "C2", "=C1")
        self.check("=C63", "C3", "C4", "=C64")
        self.check("=A1", "A1", "P64", "=P64")
        self.check("=P64", "P64", "A1", "=A1")

    def test_dollars_stay_at_each_side(self):
        self.check("=$A5", "C3", "B3", "=$A5")
        self.check("=$P5", "C3", "D3", "=$P5")
        self.check("=C$1", "C3", "C2", "=C$1")
        self.check("=C$64", "C3", "C4", "=C$64")
        self.leaves("=$A1", "C3", "B2")
        self.leaves("=A$1", "C3", "B2")

    def test_to_the_next_row_is_not_to_the_right(self):
        # P1 and A2 are neighbours by number, but fifteen columns apart.
        self.check("=P1", "P1", "A2", "=A2")
        self.leaves("=A1", "P1", "A2")

    def test_same_cell(self):
        for text in ("5", "", "=A1", "=SUM(P64:A1)", "=$B2+C$3"):
            done = run(set_call("B2", text), copy_call("B2", "B2"), text_call("B2"))
            self.assertEqual(done[1:], [[0], [len(text)] + list(text.encode())])

    def test_numbers_and_empty_cells(self):
        self.check("-12", "A1", "P64", "-12")
        self.check("", "A1", "P64", "")
        done = run(set_call("A1", "5"), copy_call("B1", "A1"), get_call("A1"), copy_call("B1", "C1"), get_call("C1"))
        self.assertEqual(done, [[0], [0], [4], [0], [4]])

    def test_refused_over_an_empty_cell_and_a_formula(self):
        done = run(set_call("C3", "=A5"), copy_call("C3", "B3"), get_call("B3"), text_call("B3"))
        self.assertEqual(done[1:], [[-1], [4], [0]])
        done = run(*fill({"C3": "=A5", "B3": "=6*7"}), copy_call("C3", "B3"), get_call("B3"))
        self.assertEqual(done[2:], [[-1], [0, 42]])

    def test_a_copy_is_worked_out(self):
        cells = {"A1": "1", "A2": "2", "A3": "3", "B1": "=A1*10"}
        done = run(*fill(cells), copy_call("B1", "B2"), copy_call("B2", "B3"), get_call("B1"), get_call("B2"), get_call("B3"),
                   needs_call("B3", "A3"), needs_call("B3", "A1"))
        self.assertEqual(done[4:], [[0], [0], [0, 10], [0, 20], [0, 30], [1], [0]])

    def test_a_copy_stands_by_itself(self):
        done = run(set_call("B1", "=A1"), copy_call("B1", "B2"), set_call("B1", "9"), text_call("B2"), copy_call("B2", "B1"),
                   set_call("B2", ""), text_call("B1"))
        self.assertEqual(done[3], [3] + list(b"=A2"))
        self.assertEqual(done[6], [3] + list(b"=A1"))

    def test_worths_follow_copies(self):
        done = run(*fill({"A1": "1", "A2": "2", "C1": "=A1", "D1": "=C1"}), get_call("D1"), copy_call("A2", "A1"), get_call("D1"),
                   copy_call("A5", "A1"), get_call("D1"), copy_call("D1", "C1"), get_call("D1"))
        self.assertEqual(done[4:], [[0, 1], [0], [0, 2], [0], [0, 0], [0], [0, 0]])
        done = run(*fill({"B1": "=C1", "C1": "5"}), get_call("B1"), copy_call("B1", "A1"), get_call("A1"), copy_call("A1", "C1"),
                   get_call("B1"))
        self.assertEqual(done[2:], [[0, 5], [0], [0, 5], [0], [0, 0]])

    def test_a_copy_makes_a_ring(self):
        done = run(*fill({"A1": "=$B$1", "B1": "4"}), get_call("A1"), copy_call("A1", "B1"), get_call("A1"), get_call("B1"))
        self.assertEqual(done[2:], [[0, 4], [0], [1], [1]])


if __name__ == "__main__":
    unittest.main()
