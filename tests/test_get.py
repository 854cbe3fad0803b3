"""Promise 2: what cells are worth, and their errors."""

import unittest

from support import GREATEST, GREATEST_TEXT, LEAST, LEAST_TEXT, fill, get_call, needs_call, run, set_call, worth

RING = [1]
BY_ZERO = [2]
TOO_FAR = [3]
EMPTY = [4]
G = GREATEST_TEXT
L = LEAST_TEXT


class Operations(unittest.TestCase):
    def check(self, *pairs):
        for formula, wanted in pairs:
            answer = wanted if isinstance(wanted, list) else [0, wanted]
            self.assertEqual(worth("=" + formula), answer, formula)

    def test_empty_and_numbers(self):
        self.assertEqual(run(get_call("A1")), [EMPTY])
        self.assertEqual(run(get_call("P64")), [EMPTY])
        for number in (0, 1, -1, 10 ** 18 - 1, 1 - 10 ** 18):
            self.assertEqual(worth(str(number)), [0, number])

    def test_plain_operations(self):
        self.check(("1+2", 3), ("1-2", -1), ("3*4", 12), ("1-2-3", -4), ("1-(2-3)", 2), ("2+3*4", 14), ("(2+3)*4", 20),
                   ("24/2/3", 4), ("24/(9/3)", 8), ("17%10%4", 3), ("7*2%4", 2), ("7*(2%4)", 14), ("--5", 5), ("-5+3", -2),
                   ("-2*3", -6), ("2*-3", -6), ("2--3", 5), ("-(2+3)", -5), ("10-4/3*2", 8), ("0", 0), ("-0", 0), ("007", 7))

    def test_division_by_each_sign(self):
        self.check(("7/2", 3), ("-7/2", -3), ("7/-2", -3), ("-7/-2", 3), ("7%2", 1), ("-7%2", -1), ("7%-2", 1), ("-7%-2", -1),
                   ("6/3", 2), ("-6/3", -2), ("6%3", 0), ("-6%3", 0), ("1/2", 0), ("-1/2", 0), ("-1%2", -1), ("0/5", 0),
                   ("0%-5", 0), ("-1/1", -1), ("-1/-1", 1), ("1/-1", -1), ("-1%1", 0),
                   ("999999999999999999/-2", -499999999999999999))

    def test_division_by_zero(self):
        self.check(("1/0", BY_ZERO), ("1%0", BY_ZERO), ("0/0", BY_ZERO), ("0%0", BY_ZERO), ("-1/0", BY_ZERO),
                   (f"{L}/0", BY_ZERO), (f"{L}%0", BY_ZERO), ("1/(1-1)", BY_ZERO), ("1/A1", BY_ZERO), ("1/-0", BY_ZERO))

    def test_both_ends(self):
        self.check((G, GREATEST), (L, LEAST), (f"{G}+1", TOO_FAR), (f"{L}-1", TOO_FAR), (f"{G}-1", GREATEST - 1),
                   (f"{L}+1", LEAST + 1), (f"{G}+0", GREATEST), (f"{G}+{L}", -1), (f"{L}+{G}", -1), (f"0-{L}", TOO_FAR),
                   (f"-1-{L}", GREATEST), (f"-{L}", TOO_FAR), (f"-{G}", -GREATEST), (f"--{L}", TOO_FAR),
                   (f"-{G}-1", LEAST), (f"-{G}-2", TOO_FAR), (f"1+{G}", TOO_FAR), (f"{L}+-1", TOO_FAR))

    def test_products_at_both_ends(self):
        self.check((f"{G}*1", GREATEST), (f"{L}*1", LEAST), (f"{G}*-1", -GREATEST), (f"{L}*-1", TOO_FAR), (f"-1*{L}", TOO_FAR),
                   (f"{G}*2", TOO_FAR), (f"{L}*2", TOO_FAR), (f"{L}*{L}", TOO_FAR), (f"{G}*0", 0), (f"{L}*0", 0),
                   ("4294967296*2147483648", TOO_FAR), ("-4294967296*2147483648", LEAST),
                   ("4294967296*-2147483648", LEAST), ("-4294967296*-2147483648", TOO_FAR),
                   ("3037000499*3037000499", 3037000499 ** 2), ("3037000500*3037000500", TOO_FAR))

    def test_quotients_at_both_ends(self):
        self.check((f"{L}/-1", TOO_FAR), (f"{L}%-1", 0), (f"{L}/1", LEAST), (f"{L}%1", 0), (f"{G}/-1", -GREATEST),
                   (f"{G}%-1", 0), (f"{L}/{L}", 1), (f"{L}%{L}", 0), (f"{G}/{L}", 0), (f"{G}%{L}", GREATEST),
                   (f"{L}/{G}", -1), (f"{L}%{G}", -1), (f"{L}/2", LEAST // 2), (f"{L}%10", -8), (f"{G}%10", 7))

    def test_each_step_counts(self):
        self.check((f"{G}+1-1", TOO_FAR), (f"{G}*2/2", TOO_FAR), (f"{G}+(1-1)", GREATEST), (f"{L}-1+1", TOO_FAR),
                   (f"0*({G}+1)", TOO_FAR), (f"{G}+1>0", TOO_FAR))

    def test_comparisons(self):
        holds = {"=": (0, 1, 0), "<>": (1, 0, 1), "<": (1, 0, 0), "<=": (1, 1, 0), ">": (0, 0, 1), ">=": (0, 1, 1)}
        for sign, (less, same, more) in holds.items():
            self.check((f"1{sign}2", less), (f"2{sign}2", same), (f"3{sign}2", more), (f"-3{sign}2", less),
                       (f"{L}{sign}{G}", less), (f"{G}{sign}{G}", same), (f"{G}{sign}{L}", more), (f"1+1{sign}2*1", same),
                       (f"A1{sign}0", same), (f"(1{sign}2)+5", less + 5))
        self.check(("(3>2)>1", 0), ("3>(2>1)", 1), ("(1<2)=(3<4)", 1), ("1=-1", 0))


class Functions(unittest.TestCase):
    def check(self, cells, *pairs):
        for formula, wanted in pairs:
            answer = wanted if isinstance(wanted, list) else [0, wanted]
            self.assertEqual(worth("=" + formula, cells), answer, formula)

    def test_of_parts(self):
        self.check({}, ("SUM(1)", 1), ("SUM(1,2,3)", 6), ("MIN(3,1,2)", 1), ("MAX(1,3,2)", 3), ("COUNT(5,5,5)", 3), ("COUNT(0)", 1),
                   ("MIN(-1)", -1), ("MAX(-2,-1)", -1), ("SUM(1<2,3)", 4), ("SUM(SUM(1,2),MAX(3,4))*2", 14),
                   ("-COUNT(1,2)", -2))

    def test_of_ranges(self):
        cells = {"A1": "4", "C1": "-7", "B2": "=A1*2", "D4": "100", "A3": "0"}
        self.check(cells, ("SUM(A1:C2)", 5), ("MIN(A1:C2)", -7), ("MAX(A1:C2)", 8), ("COUNT(A1:C2)", 3), ("COUNT(A1:D4)", 5),
                   ("SUM(A1:D4)", 105), ("MIN(A1:B2)", 4), ("MAX(C1:C3)", -7), ("COUNT(A3:A3)", 1), ("MIN(A1:B3)", 0),
                   ("SUM(A1:C2,A1:C2)", 10), ("COUNT(A1:C2,A1,1)", 5), ("MAX(C1:C2,-9)", -7), ("MIN(A1,B1:B1)", 4))

    def test_ranges_in_each_direction(self):
        cells = {"B2": "1", "C2": "2", "D2": "4", "B3": "8", "C3": "16", "D3": "32", "B4": "64", "C4": "128", "A1": "1000"}
        for corners in ("B2:D3", "D3:B2", "B3:D2", "D2:B3", "$B$2:D$3", "$D3:B$2"):
            self.check(cells, (f"SUM({corners})", 63), (f"COUNT({corners})", 6))
        self.check(cells, ("SUM(B2:B4)", 73), ("SUM(D2:B2)", 7), ("SUM(C3:C3)", 16), ("SUM(A1:O64)", 1255))

    def test_of_empty_cells(self):
        self.check({}, ("MIN(A1:B2)", 0), ("MAX(A1:B2)", 0), ("COUNT(A1:B2)", 0), ("SUM(A1:B2)", 0), ("MIN(A1:B2,C3:D4)", 0),
                   ("MIN(A1:B2,5)", 5), ("MAX(A1:B2,-5)", -5), ("COUNT(A1:B2,5)", 1), ("COUNT(A1)", 1), ("MIN(A1,5)", 0),
                   ("MAX(A1,-5)", 0), ("COUNT(A1,B1,A1:B1)", 2), ("A1", 0), ("A1+5", 5), ("SUM(A1,5)", 5), ("-A1", 0))

    def test_a_cell_that_is_emptied_again(self):
        done = run(set_call("A1", "5"), set_call("B1", "=COUNT(A1:A2)"), get_call("B1"), set_call("A1", ""), get_call("B1"))
        self.assertEqual(done[2:], [[0, 1], [0], [0, 0]])

    def test_sums_that_come_back(self):
        cells = {"A1": "=" + G, "A2": "=" + G, "A3": "=" + L, "A4": "=" + L, "A5": "1"}
        self.check(cells, ("SUM(A1,A2)", TOO_FAR), ("SUM(A1,A5)", TOO_FAR), ("SUM(A3,-1)", TOO_FAR), ("SUM(A1,A5,-1)", GREATEST),
                   ("SUM(A3,-1,A5)", LEAST), ("SUM(A1:A4)", -2), ("SUM(A1:A5)", -1), ("SUM(A3:A4)", TOO_FAR),
                   ("SUM(A1:A2,A3,A4)", -2), ("SUM(A1+A5,A3)", TOO_FAR), ("SUM(SUM(A1,A5),A3)", TOO_FAR),
                   ("MIN(A1:A4)", LEAST), ("MAX(A1:A4)", GREATEST), ("COUNT(A1:A4)", 4))

    def test_which_error_is_first(self):
        cells = {"A1": "=1/0", "B1": f"={G}+1", "A2": f"={G}*2", "B2": "=1%0", "C1": "1"}
        self.check(cells, ("A1+B1", BY_ZERO), ("B1+A1", TOO_FAR), ("A1*B1", BY_ZERO), ("B1/A1", TOO_FAR), ("A1<B1", BY_ZERO),
                   ("B1=A1", TOO_FAR), ("C1+B1*A1", TOO_FAR), ("(C1+A1)*B1", BY_ZERO), ("-B1+A1", TOO_FAR),
                   ("B1/0", TOO_FAR), (f"({G}+1)/0", TOO_FAR), (f"1/0+({G}+1)", BY_ZERO), ("SUM(B1,A1)", TOO_FAR),
                   ("SUM(A1,B1)", BY_ZERO), ("MIN(C1,B1,A1)", TOO_FAR), ("MAX(A1:B1)", BY_ZERO), ("COUNT(B1,A1)", TOO_FAR),
                   ("COUNT(A1:A1)", BY_ZERO), ("COUNT(1/0)", BY_ZERO), ("SUM(A1:A2)", BY_ZERO), ("SUM(A2:B2)", TOO_FAR),
                   ("SUM(B1:C2)", TOO_FAR), ("SUM(C1:B2)", TOO_FAR), ("SUM(B2:A1)", BY_ZERO), ("SUM(A2:A1)", BY_ZERO),
                   (f"SUM({G},1,A1)", BY_ZERO), (f"SUM({G},1)+A1", TOO_FAR), ("SUM(B2,B1:A1)", BY_ZERO))

    def test_errors_row_by_row(self):
        # In the first row from the left, then in the second: B1 comes ahead of A2, in whatever corners a range is given.
        cells = {"B1": "=1/0", "A2": f"={G}+1"}
        for corners in ("A1:B2", "B2:A1", "A2:B1", "B1:A2"):
            self.check(cells, (f"SUM({corners})", BY_ZERO))
        cells = {"A1": f"={G}+1", "B1": "=1/0"}
        for corners in ("A1:B2", "B2:A1", "A2:B1", "B1:A2"):
            self.check(cells, (f"SUM({corners})", TOO_FAR))

    def test_errors_are_handed_on(self):
        cells = {"A1": "=1/0", "B1": "=A1", "C1": "=-B1", "D1": "=SUM(C1:C1)", "E1": "=IF(D1,1,2)", "F1": "=E1=2"}
        done = run(*fill(cells), *[get_call(cell) for cell in cells])
        self.assertEqual(done[6:], [BY_ZERO] * 6)

    def test_if(self):
        cells = {"A1": "=1/0", "B1": f"={G}+1"}
        self.check(cells, ("IF(1,2,3)", 2), ("IF(0,2,3)", 3), ("IF(-1,2,3)", 2), ("IF(C1,2,3)", 3), ("IF(1<2,3<2,5)", 0),
                   ("IF(1,2,A1)", 2), ("IF(0,A1,3)", 3), ("IF(1,2,1/0)", 2), ("IF(0,1/0,3)", 3), ("IF(1,A1,B1)", BY_ZERO),
                   ("IF(0,A1,B1)", TOO_FAR), ("IF(A1,2,3)", BY_ZERO), ("IF(A1,B1,B1)", BY_ZERO), ("IF(B1,A1,A1)", TOO_FAR),
                   ("IF(1,IF(0,A1,7),B1)", 7), ("IF(IF(0,A1,1),5,B1)", 5), ("SUM(IF(0,A1,3),B1)", TOO_FAR),
                   (f"IF(0,{G}+1,3)", 3), ("IF(1,2,SUM(A1:B1))", 2), ("IF(C1,SUM(A1:B1),-3)+1", -2))


class Rings(unittest.TestCase):
    def check(self, cells, wanted):
        done = run(*fill(cells), *[get_call(cell) for cell in wanted])
        answers = [answer if isinstance(answer, list) else [0, answer] for answer in wanted.values()]
        self.assertEqual(done[len(cells):], answers)

    def test_of_one_cell(self):
        self.check({"A1": "=A1"}, {"A1": RING})
        self.check({"A1": "=1+$A$1*0"}, {"A1": RING})
        self.check({"P64": "=SUM(P64,1)"}, {"P64": RING})

    def test_of_many_cells(self):
        self.check({"A1": "=B1", "B1": "=C1", "C1": "=A1"}, {"A1": RING, "B1": RING, "C1": RING})
        cells = {cell: f"={chr(65 + (cell + 1) % 300 % 16)}{(cell + 1) % 300 // 16 + 1}" for cell in range(300)}
        self.check(cells, {0: RING, 150: RING, 299: RING})

    def test_leading_to_one(self):
        cells = {"A1": "=B1", "B1": "=C1+D1", "C1": "=C1", "D1": "=5", "E1": "=D1", "F1": "7"}
        self.check(cells, {"A1": RING, "B1": RING, "C1": RING, "D1": 5, "E1": 5, "F1": 7, "G1": EMPTY})
        self.check(cells, {"E1": 5, "D1": 5, "B1": RING, "A1": RING})
        self.check({"A1": "=1/0+B1", "B1": "=B1"}, {"A1": RING})
        self.check({"A1": "=B1+C1", "B1": "=1/0", "C1": "=C1"}, {"A1": RING, "B1": BY_ZERO})

    def test_two_ways_to_a_cell_are_no_ring(self):
        self.check({"A1": "=B1+C1", "B1": "=D1", "C1": "=D1", "D1": "3"}, {"A1": 6})
        self.check({"A1": "=B1+B1+B1", "B1": "=C1*C1", "C1": "2"}, {"A1": 12})

    def test_behind_the_part_of_an_if_that_does_not_count(self):
        self.check({"A1": "=IF(1,2,A1)"}, {"A1": RING})
        self.check({"A1": "=IF(0,B1,2)", "B1": "=B1"}, {"A1": RING, "B1": RING})
        self.check({"A1": "=IF(1,2,SUM(B1:B3))", "B2": "=C1", "C1": "=B2"}, {"A1": RING})
        self.check({"A1": "=IF(0,B1,2)", "B1": "=IF(1,5,A1)"}, {"A1": RING, "B1": RING})

    def test_through_a_range(self):
        self.check({"B2": "=SUM(A1:C3)"}, {"B2": RING})
        self.check({"B2": "=COUNT(C3:A1)"}, {"B2": RING})
        self.check({"A1": "=MAX(B1:D5)", "C3": "=A1"}, {"A1": RING, "C3": RING})
        self.check({"A1": "=MAX(B1:D5)", "E3": "=A1", "C3": "9"}, {"A1": 9, "E3": 9})

    def test_rings_come_and_go(self):
        done = run(set_call("A1", "=B1"), get_call("A1"), set_call("B1", "=A1"), get_call("A1"), get_call("B1"),
                   set_call("B1", "4"), get_call("A1"), set_call("B1", "=A1"), set_call("A1", ""), get_call("B1"))
        self.assertEqual(done, [[0], [0, 0], [0], RING, RING, [0], [0, 4], [0], [0], [0, 0]])

    def test_many_rings(self):
        cells = {"A1": "=B1", "B1": "=A1", "C1": "=D1+A1", "D1": "=C1", "E1": "=D1", "F1": "=SUM(G1:H1)", "G1": "1"}
        self.check(cells, {"F1": 1, "E1": RING, "A1": RING, "C1": RING, "D1": RING, "B1": RING})


class Chains(unittest.TestCase):
    def name(self, cell):
        return f"{chr(65 + cell % 16)}{cell // 16 + 1}"

    def test_as_long_as_the_calls_let_them(self):
        sets = [set_call(cell, f"={self.name(cell + 1)}+1") for cell in range(398)]
        self.assertEqual(run(*sets, set_call(398, "1"), get_call(0))[-1], [0, 399])
        self.assertEqual(run(*sets, get_call(397), get_call(0))[-2:], [[0, 1], [0, 398]])
        self.assertEqual(run(*sets, set_call(398, "=A1"), get_call(0))[-1], RING)
        self.assertEqual(run(*sets, set_call(398, "=1/0"), get_call(0))[-1], BY_ZERO)
        self.assertEqual(run(*sets, needs_call(0, 398), needs_call(398, 0))[-2:], [[1], [0]])

    def test_the_other_way_round(self):
        sets = [set_call(cell, f"={self.name(cell - 1)}+1") for cell in range(1, 400)]
        self.assertEqual(run(*sets, get_call(399))[-1], [0, 399])

    def test_of_deep_formulas(self):
        deep = "=" + "(" * 60 + "{}" + ")" * 60
        sets = [set_call(cell, deep.format(self.name(cell + 1))) for cell in range(398)]
        self.assertEqual(run(*sets, set_call(398, "7"), get_call(0))[-1], [0, 7])

    def test_of_ranges(self):
        # Row by row every cell adds up all rows above it.
        sets = [set_call("A1", "1")] + [set_call(f"A{row}", f"=SUM(A1:P{row - 1})") for row in range(2, 61)]
        self.assertEqual(run(*sets, get_call("A60"))[-1], [0, 2 ** 58])

    def test_many_ways(self):
        # Each cell has the one behind it in two places: 2^200 ways lead to the last.
        sets = [set_call(cell, f"={self.name(cell + 1)}-{self.name(cell + 1)}") for cell in range(200)]
        self.assertEqual(run(*sets, set_call(200, "5"), get_call(0), get_call(199))[-2:], [[0, 0], [0, 0]])
        self.assertEqual(run(*sets, set_call(200, "=A1"), get_call(0), needs_call(0, 999))[-2:], [RING, [0]])

    def test_formulas_nested_deep(self):
        for formula, wanted in (
            ("=" + "-" * 125 + "1", -1), ("=" + "-" * 124 + "1", 1), ("=" + "(" * 62 + "1" + ")" * 62, 1),
            ("=" + "-(" * 41 + "5" + ")" * 41, -5), ("=" + "1+(" * 31 + "1" + ")" * 31, 32),
            ("=" + "SUM(" * 25 + "4" + ")" * 25, 4), ("=" + "1-(" * 31 + "0" + ")" * 31, 1),
            ("=" + "IF(1," * 14 + "8" + ",9)" * 14, 8), ("=" + "1*" * 62 + "3", 3),
            ("=" + "1<(" * 31 + "1" + ")" * 31, 0),
        ):
            self.assertLessEqual(len(formula), 127)
            self.assertEqual(worth(formula), [0, wanted], formula)

    def test_worths_follow_changes(self):
        done = run(*fill({"A1": "1", "B1": "=A1+1", "C1": "=B1*10"}), get_call("C1"), set_call("A1", "2"), get_call("C1"),
                   set_call("A1", ""), get_call("C1"), set_call("A1", "=1/0"), get_call("C1"), get_call("B1"))
        self.assertEqual(done[3:], [[0, 20], [0], [0, 30], [0], [0, 10], [0], BY_ZERO, BY_ZERO])


if __name__ == "__main__":
    unittest.main()
