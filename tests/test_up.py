"""Promise 3: up."""

import unittest

from tests.helper import GREATEST_NUMBER, LATEST, TOO_LATE, ask, ask_last, begin, down, full, turns, up


class BehindADown(unittest.TestCase):
    def setUp(self):
        self.line = [begin(10, 20, 3), down(100)]

    def test_the_mark_is_over(self):
        for length, count in ((12, 6), (36, 3), (20, 4), (30, 2), (27, 1), (63, 1), (24, 0), (64, 0), (7, 1), (6, 0)):
            with self.subTest(length=length):
                self.assertEqual(ask(self.line + [up(100 + length)]), [0, 11, count])

    def test_it_is_up_then(self):
        self.assertEqual(ask(self.line + [up(112), up(113)])[2:], [6, -16])

    def test_not_behind_the_down(self):
        self.assertEqual(ask_last(self.line + [up(100)]), -22)
        self.assertEqual(ask_last([begin(10, 20, 3), down(0), up(0)]), -22)

    def test_just_behind_the_down(self):
        self.assertEqual(ask_last(self.line + [up(101)]), 0)
        self.assertEqual(ask_last([begin(1, 1, 0), down(0), up(1)]), 1)

    def test_before_now(self):
        for t in (0, 50, 99):
            with self.subTest(t=t):
                self.assertEqual(ask_last(self.line + [up(t)]), -22)

    def test_latest(self):
        self.assertEqual(ask_last(self.line + [up(LATEST)]), 0)
        self.assertEqual(ask_last([begin(10, 20, 3), down(LATEST - 12), up(LATEST)]), 6)

    def test_too_late(self):
        for t in (TOO_LATE, GREATEST_NUMBER):
            with self.subTest(t=t):
                self.assertEqual(ask_last(self.line + [up(t)]), -22)
        self.assertEqual(ask_last([begin(10, 20, 3), down(LATEST - 12), up(TOO_LATE)]), -22)

    def test_down_at_the_latest_tick(self):
        line = [begin(10, 20, 3), down(LATEST)]
        self.assertEqual(ask(line + [up(LATEST), up(TOO_LATE), down(LATEST)])[2:], [-22, -22, -16])

    def test_refused_changes_nothing(self):
        wrong = [up(0), up(99), up(100), up(TOO_LATE), up(GREATEST_NUMBER)]
        self.assertEqual(ask(self.line + wrong + [up(112)])[2:], [-22] * 5 + [6])
        self.assertEqual(ask(self.line + wrong + [down(100)])[2:], [-22] * 5 + [-16])


class WhileUp(unittest.TestCase):
    def test_never_pressed(self):
        for t in (0, 1, LATEST):
            with self.subTest(t=t):
                self.assertEqual(ask([begin(10, 20, 3), up(t), down(0)]), [0, -16, 11])

    def test_never_pressed_and_too_late(self):
        for t in (TOO_LATE, GREATEST_NUMBER):
            with self.subTest(t=t):
                self.assertEqual(ask([begin(10, 20, 3), up(t), down(0)]), [0, -22, 11])

    def test_is_up_already(self):
        for t in (112, 113, 500, LATEST):
            with self.subTest(t=t):
                self.assertEqual(ask_last([begin(10, 20, 3), down(100), up(112), up(t)]), -16)

    def test_a_wrong_tick_is_told_first(self):
        for t in (0, 100, 101, 111, TOO_LATE, GREATEST_NUMBER):
            with self.subTest(t=t):
                self.assertEqual(ask_last([begin(10, 20, 3), down(100), up(112), up(t)]), -22)

    def test_refused_changes_nothing(self):
        line = [begin(10, 20, 3), down(100), up(112)]
        wrong = [up(112), up(400), up(111), up(TOO_LATE)]
        self.assertEqual(ask(line + wrong + [down(148)])[3:], [-16, -16, -22, -22, 3])


class WithAllLengths(unittest.TestCase):
    def setUp(self):
        line, self.t = full(5)
        self.line = [begin(4, 6, 1)] + line

    def test_no_room(self):
        self.assertEqual(ask(self.line + [up(self.t + 1), up(self.t + 5), up(LATEST)])[-4:], [3, -28, -28, -28])

    def test_there_is_room_just_ahead(self):
        self.assertEqual(ask(self.line[:-1])[-3:], [3, 3, 3])
        # The 1,023rd length alone is 9 ticks: no unit is left by it.
        self.assertEqual(ask([begin(4, 6, 1)] + turns([5] * 1022 + [9]))[-2:], [3, 0])

    def test_a_wrong_tick_is_told_first(self):
        wrong = [up(self.t), up(self.t - 1), up(0), up(TOO_LATE), up(GREATEST_NUMBER)]
        self.assertEqual(ask(self.line + wrong)[-5:], [-22] * 5)

    def test_up_already_is_told_with_one_less(self):
        line = self.line[:-1]
        before = self.t - 5
        self.assertEqual(ask(line + [up(before), up(before + 1), up(before - 1), up(TOO_LATE)])[-4:],
                         [-16, -16, -22, -22])

    def test_refused_changes_nothing(self):
        later = [up(self.t + 90), up(self.t + 9), down(self.t), up(self.t), up(self.t + 1)]
        self.assertEqual(ask(self.line + later)[-5:], [-28, -28, -16, -22, -28])


if __name__ == "__main__":
    unittest.main()
