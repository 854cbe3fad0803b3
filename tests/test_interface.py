"""The interface: one list in, one list out, nothing kept and nothing changed."""

import contextlib
import io
import unittest

from ringsheet.sheet import answers
from support import copy_call, get_call, needs_call, set_call, text_call

EVERY_CALL = (
    set_call("A1", "=B1+(2)") + set_call("B1", "40") + get_call("A1") + text_call("A1", 10) + text_call("A1", 1)
    + copy_call("A1", "A2") + needs_call("A1", "B1") + set_call("A1", "=") + get_call(-1) + get_call("C1")
    + text_call("C1", 0) + set_call("C1", "") + set_call("C1", "=1/0") + get_call("C1") + copy_call("A1", "P1")
)
ANSWERED = [1, 0, 1, 0, 2, 0, 42, 6, 5, 61, 66, 49, 43, 50, 1, 5, 1, 0, 1, 1, 1, -2, 1, -5000, 1, 4, 1, 0, 1, 0, 1, 0, 1, 2, 1, -1]


class Watched(list):
    """A list that tells when something of it is changed."""

    def refuse(self, *args, **kwargs):
        raise AssertionError("what was handed in is changed")

    append = extend = insert = pop = remove = clear = reverse = sort = refuse
    __setitem__ = __delitem__ = __iadd__ = __imul__ = refuse


class Interface(unittest.TestCase):
    def test_each_call_and_its_answer(self):
        self.assertEqual(answers(EVERY_CALL), ANSWERED)

    def test_one_call(self):
        self.assertEqual(answers([2, 0]), [1, 4])
        self.assertEqual(answers([1, 0, 0]), [1, 0])
        self.assertEqual(answers([1, 2147483647, 0]), [1, -5000])
        self.assertEqual(answers([3, 5, 0]), [1, 0])
        self.assertEqual(answers([4, 5, 6]), [1, 0])
        self.assertEqual(answers([5, 5, 6]), [1, 0])

    def test_numbers_of_a_text_are_not_taken_for_calls(self):
        self.assertEqual(answers([1, 0, 3, 2, 0, 2, 2, 0]), [1, -1, 1, 4])
        self.assertEqual(answers([1, 0, 200] + [5] * 200 + [2, 0]), [1, -5000, 1, 4])

    def test_kinds(self):
        done = answers(EVERY_CALL + needs_call("A1", "A1") + set_call("D1", "=1<2") + get_call("D1"))
        self.assertIs(type(done), list)
        self.assertTrue(all(type(number) is int for number in done))

    def test_400_calls(self):
        calls = []
        for place in range(200):
            calls += set_call(place, str(place)) + get_call(place)
        self.assertEqual(answers(calls), [number for place in range(200) for number in (1, 0, 2, 0, place)])

    def test_400_longest_texts(self):
        text = "=" + ",".join(["SUM(A1:P62"] + ["A1:P62"] * 16) + ")"
        self.assertLessEqual(len(text), 127)
        calls = [number for place in range(32) for number in set_call(992 + place, text)]
        calls += set_call("A1", "1")
        asked = [number for place in range(32) for number in get_call(992 + place) + needs_call(992 + place, 1000)]
        self.assertEqual(answers(calls + asked), [1, 0] * 33 + [2, 0, 17, 1, 0] * 32)

    def test_the_longest_list(self):
        # 150 texts of 200 bytes: 30450 numbers, all refused.
        calls = [number for place in range(150) for number in set_call(place, "=" + "1" * 199)]
        self.assertEqual(answers(calls), [1, -5000] * 150)

    def test_what_is_handed_in_is_not_changed(self):
        handed = list(EVERY_CALL)
        answers(handed)
        self.assertEqual(handed, EVERY_CALL)
        self.assertEqual(answers(Watched(EVERY_CALL)), ANSWERED)

    def test_nothing_is_kept(self):
        self.assertEqual(answers(EVERY_CALL), answers(EVERY_CALL))
        answers(set_call("A1", "5") + get_call("A1"))
        self.assertEqual(answers(get_call("A1") + text_call("A1", 5)), [1, 4, 1, 0])

    def test_what_is_given_back_is_the_callers(self):
        first = answers(EVERY_CALL)
        first.clear()
        self.assertEqual(answers(EVERY_CALL), ANSWERED)

    def test_nothing_is_printed(self):
        out, err = io.StringIO(), io.StringIO()
        with contextlib.redirect_stdout(out), contextlib.redirect_stderr(err):
            answers(EVERY_CALL)
        self.assertEqual(out.getvalue() + err.getvalue(), "")


if __name__ == "__main__":
    unittest.main()
