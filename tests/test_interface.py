"""handkey.hand.answers: how calls and answers are written, and what it leaves alone."""

import contextlib
import io
import unittest

import handkey.hand
from handkey.hand import answers


# All six calls, some of them refused.
LINE = [0, 10, 20, 3, 4, 5, 1, 100, 3, 99, 1, 100, 2, 100, 3, 105, 2, 112, 2, 112, 3, 147, 4, 1, 148, 4, 0, 0, 0, 0,
        2, 160, 5, 3, 300, 4, 3, 4294967295]
TOLD = [1, 0, 1, 0, 3, 11, 10, 20, 1, 11, 1, -22, 1, -16, 1, -22, 1, 11, 1, 6, 1, -16, 1, 6, 2, 1, 69, 1, 3, 2, 1, 69,
        1, -22, 1, 3, 3, 3, 11, 13, 1, 3, 4, 3, 69, 69, 32, 1, -22]


class Answers(unittest.TestCase):
    def test_empty(self):
        told = answers([])
        self.assertEqual(told, [])
        self.assertIs(type(told), list)

    def test_a_count_ahead_of_each_answer(self):
        self.assertEqual(answers(LINE), TOLD)
        self.assertEqual(handkey.hand.answers(LINE), TOLD)

    def test_one_refused_call(self):
        self.assertEqual(answers([0, 0, 0, 0]), [1, -22])

    def test_kinds(self):
        told = answers(LINE)
        self.assertIs(type(told), list)
        for number in told:
            self.assertIs(type(number), int)

    def test_what_is_handed_in_is_not_changed(self):
        calls = list(LINE)
        told = answers(calls)
        self.assertEqual(calls, LINE)
        told.append(5)
        self.assertEqual(calls, LINE)

    def test_nothing_is_written_into_the_list(self):
        class ReadOnly(list):
            def refuse(self, *ignored):
                raise AssertionError("the list was changed")
            __setitem__ = __delitem__ = __iadd__ = __imul__ = refuse
            append = clear = extend = insert = pop = remove = reverse = sort = refuse
        self.assertEqual(answers(ReadOnly(LINE)), TOLD)
        self.assertEqual(answers(ReadOnly()), [])

    def test_nothing_is_kept(self):
        self.assertEqual(answers(LINE), TOLD)
        self.assertEqual(answers([0, 1, 1, 0, 1, 5]), [1, 0, 1, 1])
        self.assertEqual(answers(LINE), TOLD)

    def test_an_answer_changed_later_is_told_anew(self):
        first = answers(LINE)
        first.clear()
        self.assertEqual(answers(LINE), TOLD)
        self.assertEqual(answers([]), [])

    def test_nothing_is_printed(self):
        out, err = io.StringIO(), io.StringIO()
        with contextlib.redirect_stdout(out), contextlib.redirect_stderr(err):
            answers(LINE)
        self.assertEqual((out.getvalue(), err.getvalue()), ("", ""))

    def test_numbers_behind_each_call(self):
        self.assertEqual(answers([0, 1, 1, 0, 3, 0, 4, 5, 4, 4, 5, 5]),
                         [1, 0, 1, 1, 1, 0, 3, 1, 1, 1, 1, 0, 1, 0, 3, 1, 1, 1, 3, 1, 1, 1])

    def test_read_tells_so_many_bytes(self):
        self.assertEqual(answers([0, 10, 10, 3, 1, 0, 2, 10, 4, 3, 24, 4, 3, 44, 4]),
                         [1, 0, 1, 1, 1, 1, 1, 0, 1, 1, 2, 1, 69, 1, 1, 3, 2, 69, 32])

    def test_a_refusal_is_its_number_alone(self):
        self.assertEqual(answers([0, 10, 10, 3, 1, 0, 2, 20, 4, 5, 3, 19]), [1, 0, 1, 1, 1, 0, 1, -61, 3, 0, 0, 0, 1, -22])

    def test_an_answered_row_changed_later_is_told_anew(self):
        line = [0, 10, 10, 3, 1, 0, 2, 10, 3, 44, 4, 4, 3, 50, 4, 1, 80, 4]
        told = answers(line)
        self.assertEqual(told, [1, 0, 1, 1, 1, 1, 1, 1, 3, 2, 69, 32, 3, 2, 69, 32, 1, 1, 3, 2, 69, 32, 1, 1, 3, 2, 69, 32])
        kept = list(told)
        told.extend([5, 5])
        self.assertEqual(answers(line), kept)

    def test_most_calls_of_all_six(self):
        # Each turn of it is 10 calls: a letter T, told, and begun again.
        turn = [0, 10, 10, 3, 4, 5, 1, 0, 3, 20, 2, 30, 3, 44, 4, 3, 64, 4]
        told = [1, 0, 1, 0, 3, 1, 10, 10, 1, 1, 1, 1, 1, 1, 1, 1, 2, 1, 84, 1, 1, 3, 2, 84, 32]
        self.assertEqual(answers(turn * 110), told * 110)

    def test_most_calls_of_read(self):
        calls = [0, 10, 10, 3]
        for place in range(274):
            calls += [1, 60 * place, 2, 60 * place + 30, 3, 60 * place + 44, 4]
        told = answers(calls)
        self.assertEqual(told[:2], [1, 0])
        self.assertEqual(told[-276:], [275, 274] + [84] * 274)
        self.assertEqual(len(told), 2 + sum(6 + 2 + n for n in range(1, 275)))

    def test_most_calls(self):
        self.assertEqual(answers([0, 10, 20, 3] * 1100), [1, 0] * 1100)
        self.assertEqual(answers([0, 10, 20, 3] + [2, 0] * 1099), [1, 0] + [1, -16] * 1099)


if __name__ == "__main__":
    unittest.main()
