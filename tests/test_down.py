"""Promise 2: down."""

import unittest

from tests.helper import GREATEST_NUMBER, LATEST, TOO_LATE, ask, ask_last, begin, down, full, turns, up


class First(unittest.TestCase):
    def test_all_units_may_be(self):
        for t in (0, 1, 77, 1000001, LATEST):
            with self.subTest(t=t):
                self.assertEqual(ask_last([begin(10, 20, 3), down(t)]), 11)

    def test_too_late(self):
        for t in (TOO_LATE, TOO_LATE + 1, GREATEST_NUMBER):
            with self.subTest(t=t):
                self.assertEqual(ask([begin(10, 20, 3), down(t), down(0)]), [0, -22, 11])

    def test_what_was_ahead_is_no_gap(self):
        # 5 ticks would be no gap of these units.
        self.assertEqual(ask([begin(10, 20, 0), down(5), up(15)]), [0, 11, 1])


class BehindAnUp(unittest.TestCase):
    def setUp(self):
        self.line = [begin(10, 20, 3), down(100), up(112)]

    def test_the_gap_is_over(self):
        # The mark leaves 10 to 15; a gap of 3 units, 36 ticks, leaves 11 to 13.
        self.assertEqual(ask(self.line + [down(148)]), [0, 11, 6, 3])

    def test_not_behind_the_up(self):
        self.assertEqual(ask_last(self.line + [down(112)]), -22)

    def test_just_behind_the_up(self):
        self.assertEqual(ask_last(self.line + [down(113)]), 0)
        self.assertEqual(ask_last([begin(1, 1, 0), down(0), up(1), down(2)]), 1)

    def test_before_now(self):
        for t in (0, 99, 100, 111):
            with self.subTest(t=t):
                self.assertEqual(ask_last(self.line + [down(t)]), -22)

    def test_latest(self):
        self.assertEqual(ask_last(self.line + [down(LATEST)]), 6)
        self.assertEqual(ask_last([begin(10, 20, 3), down(LATEST - 20), up(LATEST - 10), down(LATEST)]), 4)

    def test_too_late(self):
        for t in (TOO_LATE, GREATEST_NUMBER):
            with self.subTest(t=t):
                self.assertEqual(ask_last(self.line + [down(t)]), -22)

    def test_up_at_the_latest_tick(self):
        line = [begin(10, 20, 3), down(LATEST - 10), up(LATEST)]
        self.assertEqual(ask(line + [down(LATEST), down(TOO_LATE)])[-2:], [-22, -22])

    def test_refused_changes_nothing(self):
        wrong = [down(0), down(112), down(TOO_LATE), down(GREATEST_NUMBER)]
        self.assertEqual(ask(self.line + wrong + [down(148)])[3:], [-22] * 4 + [3])
        self.assertEqual(ask(self.line + wrong + [up(113)])[3:], [-22] * 4 + [-16])


class WhileDown(unittest.TestCase):
    lines = ([begin(10, 20, 3), down(100)],
             [begin(10, 20, 3), down(80), up(90), down(100)])

    def test_is_down_already(self):
        for line in self.lines:
            for t in (100, 101, 500, LATEST):
                with self.subTest(line=line, t=t):
                    self.assertEqual(ask_last(line + [down(t)]), -16)

    def test_a_wrong_tick_is_told_first(self):
        for line in self.lines:
            for t in (0, 90, 99, TOO_LATE, GREATEST_NUMBER):
                with self.subTest(line=line, t=t):
                    self.assertEqual(ask_last(line + [down(t)]), -22)

    def test_down_at_the_first_tick(self):
        self.assertEqual(ask([begin(1, 1, 0), down(0), down(0), down(1)]), [0, 1, -16, -16])

    def test_refused_changes_nothing(self):
        wrong = [down(100), down(300), down(99), down(TOO_LATE)]
        for line in self.lines:
            with self.subTest(line=line):
                plain = ask_last(line + [up(113)])
                self.assertGreater(plain, 0)
                self.assertEqual(ask(line + wrong + [up(113)])[len(line):], [-16, -16, -22, -22, plain])


class WithAllLengths(unittest.TestCase):
    def test_down_already_is_told(self):
        line, t = full(5)
        told = ask([begin(4, 6, 1)] + line + [down(t), down(t + 1), down(LATEST)])
        self.assertEqual(told[-4:], [3, -16, -16, -16])

    def test_a_wrong_tick_is_told_first(self):
        line, t = full(5)
        told = ask([begin(4, 6, 1)] + line + [down(t - 1), down(0), down(TOO_LATE), down(GREATEST_NUMBER)])
        self.assertEqual(told[-5:], [3, -22, -22, -22, -22])

    def test_the_last_gap_is_taken(self):
        line, t = full(5)
        self.assertEqual(ask([begin(4, 6, 1)] + line)[-3:], [3, 3, 3])
        # The 1,024th length alone is 9 ticks: no unit is left by it.
        self.assertEqual(ask([begin(4, 6, 1)] + turns([5] * 1023 + [9]))[-2:], [3, 0])


if __name__ == "__main__":
    unittest.main()
