"""handkey.hand.answers: how calls and answers are written, and what it leaves alone."""

import contextlib
import io
import unittest

import handkey.hand
from handkey.hand import answers


LINE = [0, 10, 20, 3, 1, 100, 1, 100, 2, 100, 2, 112, 2, 112, 1, 148, 0, 0, 0, 0, 2, 160]
TOLD = [1, 0, 1, 11, 1, -16, 1, -22, 1, 6, 1, -16, 1, 3, 1, -22, 1, 3]


class Answers(unittest.TestCase):
    def test_empty(self):
        told = answers([])
        self.assertEqual(told, [])
        self.assertIs(type(told), list)

    def test_a_count_ahead_of_each_answer(self):
        self.assertEqual(answers(LINE), TOLD)
        self.assertEqual(handkey.hand.answers(LINE), TOLD)

    def test_one_refused_call(self):
        self.assertEqual(answers([0, 0, 0, 0]), [1, -22])

    def test_kinds(self):
        told = answers(LINE)
        self.assertIs(type(told), list)
        for number in told:
            self.assertIs(type(number), int)

    def test_what_is_handed_in_is_not_changed(self):
        calls = list(LINE)
        told = answers(calls)
        self.assertEqual(calls, LINE)
        told.append(5)
        self.assertEqual(calls, LINE)

    def test_nothing_is_written_into_the_list(self):
        class ReadOnly(list):
            def refuse(self, *ignored):
                raise AssertionError("the list was changed")
            __setitem__ = __delitem__ = __iadd__ = __imul__ = refuse
            append = clear = extend = insert = pop = remove = reverse = sort = refuse
        self.assertEqual(answers(ReadOnly(LINE)), TOLD)
        self.assertEqual(answers(ReadOnly()), [])

    def test_nothing_is_kept(self):
        self.assertEqual(answers(LINE), TOLD)
        self.assertEqual(answers([0, 1, 1, 0, 1, 5]), [1, 0, 1, 1])
        self.assertEqual(answers(LINE), TOLD)

    def test_an_answer_changed_later_is_told_anew(self):
        first = answers(LINE)
        first.clear()
        self.assertEqual(answers(LINE), TOLD)
        self.assertEqual(answers([]), [])

    def test_nothing_is_printed(self):
        out, err = io.StringIO(), io.StringIO()
        with contextlib.redirect_stdout(out), contextlib.redirect_stderr(err):
            answers(LINE)
        self.assertEqual((out.getvalue(), err.getvalue()), ("", ""))

    def test_most_calls(self):
        self.assertEqual(answers([0, 10, 20, 3] * 1100), [1, 0] * 1100)
        self.assertEqual(answers([0, 10, 20, 3] + [2, 0] * 1099), [1, 0] + [1, -16] * 1099)


if __name__ == "__main__":
    unittest.main()
