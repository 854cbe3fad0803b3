"""Promise 3: the text that says what a cell has."""

import unittest

import oracle
from support import copy_call, retold, run, set_call, text_call


class Texts(unittest.TestCase):
    def check(self, *pairs):
        for text, wanted in pairs:
            self.assertEqual(retold(text), wanted, text)

    def stays(self, *texts):
        for text in texts:
            self.assertEqual(retold(text), text)

    def test_empty(self):
        self.assertEqual(run(text_call("A1", 0), text_call("A1", 1024)), [[0], [0]])
        self.assertEqual(run(set_call("A1", "1"), set_call("A1", ""), text_call("A1")), [[0], [0], [0]])

    def test_numbers(self):
        self.stays("0", "5", "-5", "10", "-100", "9" * 18, "-" + "9" * 18)
        self.check(("007", "7"), ("-007", "-7"), ("000", "0"), ("0" * 17 + "1", "1"), ("-0", "0"), ("-000", "0"), ("0100", "100"))

    def test_numbers_in_formulas(self):
        self.stays("=0", "=-0", "=--0", "=" + "9" * 18, "=10+20")
        self.check(("=007", "=7"), ("=-007", "=-7"), ("=000", "=0"), ("=A10+010", "=A10+10"), ("=-00", "=-0"), ("=1+(-0)", "=1+-0"))

    def test_brackets_left_out(self):
        self.check(("=(1)", "=1"), ("=((1))", "=1"), ("=(A1)", "=A1"), ("=(1+2)", "=1+2"), ("=(1<2)", "=1<2"), ("=((1<2))", "=1<2"),
                   ("=(1+2)+3", "=1+2+3"), ("=(1-2)-3", "=1-2-3"), ("=(1*2)*3", "=1*2*3"), ("=(1/2)%3", "=1/2%3"),
                   ("=1+(2*3)", "=1+2*3"), ("=(1*2)+3", "=1*2+3"), ("=1-(2/3)", "=1-2/3"), ("=1+(-2)", "=1+-2"),
                   ("=(-1)*2", "=-1*2"), ("=-(1)", "=-1"), ("=-(-1)", "=--1"), ("=-(A1)", "=-A1"), ("=-(SUM(1))", "=-SUM(1)"),
                   ("=(1+2)<(3+4)", "=1+2<3+4"), ("=(1*2)=(3)", "=1*2=3"), ("=1*(-2)", "=1*-2"), ("=-(-(-1))", "=---1"),
                   ("=SUM((1),(A1),(1<2))", "=SUM(1,A1,1<2)"), ("=IF((1<2),(3=4),(5+6))", "=IF(1<2,3=4,5+6)"),
                   ("=(SUM(1))*2", "=SUM(1)*2"), ("=((1+2))*3", "=(1+2)*3"), ("=1<(2)", "=1<2"), ("=(IF(1,2,3))", "=IF(1,2,3)"))

    def test_brackets_that_stay(self):
        self.stays("=1+(2+3)", "=1-(2-3)", "=1-(2+3)", "=1*(2*3)", "=1/(2*3)", "=1%(2%3)", "=(1+2)*3", "=1*(2+3)", "=(1-2)%(3-4)",
                   "=-(1+2)", "=-(1*2)", "=-(1<2)", "=(1<2)<3", "=1<(2<3)", "=(1<2)+3", "=1+(2<3)", "=(1=2)=(3=4)", "=1*(2=3)",
                   "=--(1+2)", "=1-2*(3-4)", "=SUM(1+(2+3),(1<2)<3)", "=-(1+2)*3")

    def test_every_pair_of_signs(self):
        signs = ("+", "-", "*", "/", "%", "=", "<>", "<", "<=", ">", ">=")
        for one in signs:
            for other in signs:
                for text in (f"=(1{one}2){other}3", f"=1{one}(2{other}3)", f"=-(1{one}2){other}-(3)", f"=((1{one}2){other}(3))"):
                    self.assertEqual(retold(text), oracle.told(text), text)

    def test_dollars(self):
        self.stays("=A1", "=$A1", "=A$1", "=$A$1", "=$P$64", "=P64", "=SUM($A1:A$1,$B$2:C3)")

    def test_ranges_as_they_were_written(self):
        self.stays("=SUM(A1:B2)", "=SUM(B2:A1)", "=SUM(A2:B1)", "=SUM(B1:A2)", "=COUNT(A1:A1)", "=MIN(P64:$A$1)", "=MAX(C3:C3,C3)")

    def test_functions_and_signs(self):
        self.stays("=IF(A1,B2,C3)", "=SUM(1)", "=MIN(1,2)", "=MAX(A1:B2,3)", "=COUNT(A1)", "=1=2", "=1<>2", "=1<2", "=1<=2", "=1>2",
                   "=1>=2", "=1+2-3*4/5%6", "=IF(SUM(A1:B2)>MIN(3),COUNT(1,2),-MAX(4))")

    def test_most(self):
        for text in ("1234", "=A1+1", "=" + "-" * 125 + "1"):
            size = len(text)
            told = [size] + list(text.encode())
            for most, wanted in ((size - 1, [size]), (size, told), (size + 1, told), (0, [size]), (1024, told)):
                self.assertEqual(run(set_call("A1", text), text_call("A1", most))[1], wanted)
        self.assertEqual(run(set_call("A1", "007"), text_call("A1", 0), text_call("A1", 1)), [[0], [1], [1, 55]])
        self.assertEqual(run(set_call("A1", "=(((1)))"), text_call("A1", 1), text_call("A1", 2)), [[0], [2], [2, 61, 49]])

    def test_longer_than_a_text_that_can_be_set(self):
        text = "=" + "A1+" * 41 + "A11"
        self.assertEqual(len(text), 127)
        wanted = "=" + "A10+" * 41 + "A20"
        done = run(set_call("B1", text), copy_call("B1", "B10"), text_call("B10"), text_call("B10", 167), text_call("B10", 168))
        told = [168] + list(wanted.encode())
        self.assertEqual(done[2:], [told, [168], told])

    def test_deep_formulas(self):
        self.check(("=" + "(" * 62 + "1" + ")" * 62, "=1"), ("=" + "-(" * 41 + "5" + ")" * 41, "=" + "-" * 41 + "5"))
        self.stays("=" + "-" * 125 + "1", "=" + "1+(" * 30 + "1+1" + ")" * 30, "=" + "SUM(" * 25 + "4" + ")" * 25)

    def test_telling_changes_nothing(self):
        done = run(set_call("A1", "=(B1)"), text_call("A1"), text_call("A1", 0), text_call("A1"))
        self.assertEqual(done[1], done[3])


if __name__ == "__main__":
    unittest.main()
