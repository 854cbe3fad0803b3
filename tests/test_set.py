"""Promise 1: which texts a cell takes, and where the others go wrong."""

import unittest

import oracle
from support import fill, get_call, run, set_answer, set_call, text_call

FUNCTIONS = ("SUM", "MIN", "MAX", "COUNT")
WHOLE = (
    "=IF(A1<=B$2,SUM($C3,D4:$E$5,-6),MIN(7)%8)<>(9-COUNT(P64:A1,1))*MAX(I1,M2)/C3",
    "=SUM(A1:B2,C3)",
    "=COUNT($A$10:$P$64)",
    "=-(12+I6)",
    "=IF(1,2,3)",
)


class Taken(unittest.TestCase):
    def taken(self, *texts):
        for text in texts:
            self.assertEqual(set_answer(text), 0, text)

    def goes_wrong(self, text, place):
        self.assertEqual(set_answer(text), -1 - place, text)

    def ends_too_soon(self, *texts):
        for text in texts:
            self.goes_wrong(text, len(text))

    def test_no_bytes(self):
        done = run(set_call("A1", "5"), set_call("A1", ""), get_call("A1"), text_call("A1"), set_call("B1", ""))
        self.assertEqual(done, [[0], [0], [4], [0], [0]])

    def test_numbers(self):
        for text in ("0", "5", "-5", "-0", "007", "-007", "9" * 18, "-" + "9" * 18, "0" * 18, "0" * 17 + "1"):
            self.assertEqual(run(set_call("A1", text), get_call("A1")), [[0], [0, int(text)]], text)

    def test_no_numbers(self):
        self.ends_too_soon("-")
        self.goes_wrong("1" * 19, 18)
        self.goes_wrong("0" * 19, 18)
        self.goes_wrong("-" + "1" * 19, 19)
        self.goes_wrong("1" * 18 + "x", 18)
        for text, place in (("--1", 1), ("+1", 0), ("1-", 1), ("1+1", 1), ("-x", 1), ("-=", 1), ("12a", 2), ("1.5", 1)):
            self.goes_wrong(text, place)

    def test_first_bytes(self):
        for byte in range(256):
            done = run(set_call("A1", [byte]))[0][0]
            if byte == ord("=") or byte == ord("-"):
                self.assertEqual(done, -2)
            else:
                self.assertEqual(done, 0 if 48 <= byte <= 57 else -1, byte)

    def test_numbers_in_formulas(self):
        self.taken("=0", "=" + "9" * 18, "=-" + "9" * 18, "=" + "0" * 18)
        self.goes_wrong("=" + "9" * 19, 19)
        self.goes_wrong("=1+" + "0" * 19, 21)

    def test_each_kind_of_factor(self):
        factors = ["-1", "--1", "12", "(1)", "(1<2)", "A1", "IF(1,2,3)", "IF(1<2,3=4,5>6)"]
        factors += [f"{name}({parts})" for name in FUNCTIONS for parts in ("1", "1,2", "A1", "A1:B2", "A1:B2,1<2,C3:D4")]
        for factor in factors:
            self.taken(f"={factor}", f"=-{factor}", f"=({factor})", f"=SUM({factor})", f"=IF({factor},{factor},{factor})")
            for sign in "+-*/%":
                self.taken(f"={factor}{sign}{factor}{sign}{factor}")

    def test_comparisons(self):
        for sign in ("=", "<>", "<", "<=", ">", ">="):
            self.taken(f"=1{sign}2", f"=1+1{sign}2*2", f"=(1{sign}2){sign}(3{sign}4)", f"=1{sign}-2", f"=SUM(1{sign}2,3{sign}4)")
            self.ends_too_soon(f"=1{sign}")
            self.goes_wrong(f"={sign}2", 1)
            for other in ("=", "<>", "<", "<=", ">", ">="):
                self.goes_wrong(f"=1{sign}2{other}3", 3 + len(sign))
                self.goes_wrong(f"=(1{sign}2+3{other}4)", 6 + len(sign))
                self.goes_wrong(f"=SUM(1{sign}2{other}3)", 7 + len(sign))
                self.taken(f"=SUM(1{sign}2,3{other}4)", f"=(1{sign}2){other}3", f"=1{sign}(2{other}3)")

    def test_signs_that_are_none(self):
        for text, place in (("=1==2", 3), ("=1=<2", 3), ("=1=>2", 3), ("=1><2", 3), ("=1<<2", 3), ("=1>>2", 3),
                            ("=1<>=2", 4), ("=1<==2", 4), ("=1!2", 2), ("=1++2", 3), ("=1+*2", 3), ("=+1", 1),
                            ("=*1", 1), ("=1**2", 3), ("=1//2", 3), ("=1%%2", 3), ("=1%", 3), ("=1^2", 2), ("=1&2", 2)):
            self.goes_wrong(text, place)

    def test_function_names_cut_short(self):
        for name in ("IF",) + FUNCTIONS:
            for size in range(1, len(name) + 1):
                self.ends_too_soon("=" + name[:size], "=1+" + name[:size], "=SUM(" + name[:size])
            self.ends_too_soon(f"={name}(")

    def test_function_names_that_go_wrong(self):
        for name in ("IF(",) + tuple(one + "(" for one in FUNCTIONS):
            for place in range(len(name)):
                for byte in range(256):
                    text = list(f"={name[:place]}".encode()) + [byte] + list(name[place + 1:].encode() + b"1,2,3)")
                    wanted = oracle.judged(text)
                    self.assertEqual(run(set_call("A1", text)), [[wanted]], text)

    def test_function_names_that_go_wrong_by_hand(self):
        for text, place in (("=SX", 2), ("=S1", 2), ("=SUN(1)", 3), ("=SUM1", 4), ("=SUM A1", 4), ("=IG", 2), ("=IFF", 3),
                            ("=IF1", 3), ("=MX", 2), ("=MIX(1)", 3), ("=MAY(1)", 3), ("=MINA", 4), ("=CX", 2),
                            ("=COUNTS", 6), ("=CONT", 3), ("=AB1", 2), ("=Q1", 1), ("=sum(1)", 1), ("=Sum(1)", 2),
                            ("=$SUM(1)", 2), ("=$IF(1,2,3)", 3), ("=$MIN(1)", 3), ("=AVERAGE(1)", 2), ("=I(1)", 2)):
            self.goes_wrong(text, place)
        self.taken("=I1", "=I$1", "=$I1", "=M64", "=M$1", "=C1", "=C$1", "=$C$1")

    def test_function_parts(self):
        for name in FUNCTIONS:
            self.goes_wrong(f"={name}()", len(name) + 2)
            self.goes_wrong(f"={name}(1,)", len(name) + 4)
            self.goes_wrong(f"={name}(,1)", len(name) + 2)
            self.goes_wrong(f"={name}(1;2)", len(name) + 3)
            self.taken(f"={name}(" + ",".join("1" * 50) + ")")
        for text, place in (("=IF()", 4), ("=IF(1)", 5), ("=IF(1,2)", 7), ("=IF(1,2,3,4)", 9), ("=IF(1,,3)", 6),
                            ("=IF(1,2,)", 8), ("=IF((1,2,3))", 6), ("=(1,2)", 3), ("=1,2", 2), ("=SUM((1,2))", 7)):
            self.goes_wrong(text, place)

    def test_references(self):
        for column in "ABCDEFGHIJKLMNOP":
            for row in ("1", "9", "10", "64"):
                self.taken(f"={column}{row}", f"=${column}{row}", f"={column}${row}", f"=${column}${row}")
        for text, place in (("=A65", 3), ("=A0", 2), ("=A01", 2), ("=A$0", 3), ("=A$01", 3), ("=A$65", 4), ("=$A$65", 5),
                            ("=A70", 3), ("=A100", 4), ("=A641", 4), ("=A640", 4), ("=Q1", 1), ("=Z1", 1), ("=$Q1", 2),
                            ("=a1", 1), ("=$a1", 2), ("=A-1", 2), ("=$$A1", 2), ("=A$$1", 3), ("=A1$", 3), ("=A1B2", 3),
                            ("=A1A", 3), ("=$1", 2), ("=1A", 2), ("=A$B", 3), ("=@1", 1)):
            self.goes_wrong(text, place)
        self.ends_too_soon("=A", "=$", "=$A", "=A$", "=$A$", "=P$")

    def test_each_row(self):
        for row in range(0, 1000):
            self.assertEqual(set_answer(f"=A{row}") == 0, 1 <= row <= 64, row)

    def test_ranges(self):
        for name in FUNCTIONS:
            self.taken(f"={name}(A1:A1)", f"={name}(P64:A1)", f"={name}(B1:A2,3,$A1:B$2)", f"={name}(1,A1:B2)")
            self.taken(f"={name}(MIN(A1:B2),C3:D4)", f"=IF({name}(A1:B2),1,2)", f"={name}(A1:B2)+{name}(A1:B2)")

    def test_ranges_cut_short(self):
        for name in FUNCTIONS:
            text = f"={name}($A$10:$B$20)"
            for size in range(1, len(text)):
                self.ends_too_soon(text[:size])
            self.taken(text)

    def test_ranges_where_none_can_stand(self):
        for text, place in (("=A1:B2", 3), ("=(A1:B2)", 4), ("=IF(A1:B2,1,2)", 6), ("=IF(1,A1:B2,2)", 8), ("=IF(1,2,A1:B2)", 10),
                            ("=SUM((A1:B2))", 8), ("=SUM(-A1:B2)", 8), ("=SUM(1+A1:B2)", 9), ("=SUM(A1:B2+1)", 10),
                            ("=SUM(A1:B2:C3)", 10), ("=SUM(A1:B2<1)", 10), ("=SUM(A1:B2=1)", 10), ("=SUM(1<A1:B2)", 9),
                            ("=SUM(1*A1:B2)", 9), ("=SUM(1:2)", 6), ("=SUM(A1:2)", 8), ("=SUM(A1:-B2)", 8),
                            ("=SUM(A1:(B2))", 8), ("=SUM((A1):B2)", 9), ("=SUM(A1:SUM(B2))", 8), ("=SUM(A1:IF(1,2,3))", 9),
                            ("=SUM(A1:MIN(1))", 9), ("=SUM(A1:)", 8), ("=SUM(A1::B2)", 8), ("=SUM(:B2)", 5),
                            ("=SUM(A1:B65)", 10), ("=SUM(A1:B0)", 9), ("=SUM(A1:Q1)", 8), ("=SUM(A1,2:B2)", 9),
                            ("=SUM(IF(1,A1:B2,3))", 12), ("=SUM(A1:B2A)", 10), ("=SUM(A1:B2(", 10), ("=SUM(1)A1:B2", 7)):
            self.goes_wrong(text, place)

    def test_blanks(self):
        for text in WHOLE:
            for place in range(len(text) + 1):
                self.assertEqual(set_answer(text[:place] + " " + text[place:]), -1 - place)
        self.goes_wrong(" ", 0)
        self.goes_wrong(" 1", 0)
        self.goes_wrong("1 ", 1)
        self.goes_wrong("- 1", 1)

    def test_bytes_behind(self):
        for text, place in (("=1)", 2), ("=(1))", 4), ("=A1)", 3), ("=SUM(1))", 7), ("=1(", 2), ("=A1(", 3), ("=(1)(2)", 4),
                            ("=(1)2", 4), ("=SUM(1)2", 7), ("=1;", 2), ("=1\n", 2), ("=1\0", 2), ("=SUM(1)SUM(2)", 7)):
            self.goes_wrong(text, place)
        for byte in range(128, 256):
            self.assertEqual(run(set_call("A1", list(b"=1") + [byte])), [[-3]])
            self.assertEqual(run(set_call("A1", list(b"=") + [byte])), [[-2]])

    def test_texts_that_end_too_soon(self):
        self.ends_too_soon("=", "=-", "=(", "=(1", "=1+", "=1*", "=1<", "=(1<", "=IF(1", "=IF(1,", "=IF(1,2", "=IF(1,2,")
        self.ends_too_soon("=SUM(1", "=SUM(1,", "=((((", "=" + "(" * 126, "=" + "-" * 126, "=" + "(" * 63 + "1" + ")" * 62)
        for text in WHOLE:
            self.taken(text)
            for size in range(1, len(text)):
                wanted = oracle.judged(text[:size].encode())
                self.assertEqual(set_answer(text[:size]), wanted, text[:size])

    def test_each_byte_at_each_place(self):
        for text in WHOLE[1:]:
            for place in range(len(text)):
                for byte in b"09A$:,()<=>-+*%Z. \xff":
                    changed = list(text.encode())
                    changed[place] = byte
                    self.assertEqual(run(set_call("A1", changed)), [[oracle.judged(changed)]], changed)

    def test_the_cell_stays(self):
        for first, answered in (("5", [0, 5]), ("=2*3", [0, 6]), ("", [4])):
            for wrong in ("x", "=", "-", "=1+", "=A65", "1" * 19):
                done = run(set_call("B2", first), set_call("B2", wrong), get_call("B2"), text_call("B2"))
                self.assertEqual(done[2:], [answered, [len(first)] + list(first.encode())])

    def test_a_cell_takes_another_text(self):
        done = run(*fill({"A1": "1", "B1": "=A1"}), set_call("B1", "=A1+1"), get_call("B1"), set_call("B1", "9"),
                   get_call("B1"), set_call("B1", ""), get_call("B1"))
        self.assertEqual(done[2:], [[0], [0, 2], [0], [0, 9], [0], [4]])

    def test_cells_by_their_numbers(self):
        for name, number in (("A1", 0), ("P1", 15), ("A2", 16), ("P64", 1023), ("C5", 66)):
            reader = 500
            done = run(set_call(number, "42"), set_call(reader, f"={name}"), get_call(reader))
            self.assertEqual(done[2], [0, 42], name)

    def test_deep_formulas(self):
        for text in ("=" + "(" * 62 + "1" + ")" * 62, "=" + "-" * 125 + "1", "=" + "-(" * 41 + "1" + ")" * 41,
                     "=" + "SUM(" * 25 + "1" + ")" * 25, "=" + "1+(" * 31 + "1" + ")" * 31):
            self.assertLessEqual(len(text), 127)
            self.taken(text)


if __name__ == "__main__":
    unittest.main()
