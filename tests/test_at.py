"""Promise 4: at."""

import unittest

from tests.helper import (GREATEST_NUMBER, LATEST, TOO_LATE, ask, ask_all, ask_last, at, begin, down, full, hand,
                          text_behind, turns, units, up)


class NeverPressed(unittest.TestCase):
    def test_all_units_may_be(self):
        for t in (0, 1, 77, 1000001, LATEST):
            with self.subTest(t=t):
                self.assertEqual(ask([begin(10, 20, 3), at(t)]), [0, 11])

    def test_the_same_tick_again(self):
        self.assertEqual(ask([begin(10, 20, 3), at(0), at(50), at(50), at(51)]), [0, 11, 11, 11, 11])

    def test_before_now(self):
        self.assertEqual(ask([begin(10, 20, 3), at(50), at(49), at(0), at(50)]), [0, 11, -22, -22, 11])

    def test_too_late(self):
        for t in (TOO_LATE, TOO_LATE + 1, GREATEST_NUMBER):
            with self.subTest(t=t):
                self.assertEqual(ask([begin(10, 20, 3), at(t), at(0)]), [0, -22, 11])

    def test_down_behind_it(self):
        line = [begin(10, 20, 3), at(50)]
        self.assertEqual(ask(line + [down(49), down(50)])[2:], [-22, 11])
        self.assertEqual(ask(line + [down(51)])[2:], [11])

    def test_what_was_ahead_is_no_gap(self):
        self.assertEqual(ask([begin(10, 20, 0), at(5), down(5), up(15)]), [0, 11, 11, 1])

    def test_up_behind_it(self):
        self.assertEqual(ask([begin(10, 20, 3), at(50), up(49), up(50), up(51)])[2:], [-22, -16, -16])

    def test_begun_again_now_is_the_first_tick(self):
        self.assertEqual(ask([begin(10, 20, 3), at(LATEST), begin(10, 20, 3), at(0), down(0)]), [0, 11, 0, 11, 11])


class InAMark(unittest.TestCase):
    def setUp(self):
        self.line = [begin(10, 20, 3), down(100)]

    def test_ticks_that_are_taken(self):
        for t, count in ((100, 11), (101, 11), (133, 11), (134, 10), (163, 1), (164, 0), (LATEST, 0)):
            with self.subTest(t=t):
                self.assertEqual(ask_last(self.line + [at(t)]), count)

    def test_ticks_that_are_refused(self):
        for t in (0, 99, TOO_LATE, GREATEST_NUMBER):
            with self.subTest(t=t):
                self.assertEqual(ask_last(self.line + [at(t)]), -22)
        self.assertEqual(ask(self.line + [at(110), at(109), at(110)])[2:], [11, -22, 11])

    def test_refused_changes_nothing(self):
        wrong = [at(99), at(TOO_LATE), at(GREATEST_NUMBER)]
        self.assertEqual(ask(self.line + wrong + [up(112)])[2:], [-22] * 3 + [6])
        self.assertEqual(ask(self.line + [at(105)] + wrong + [up(105)])[2:], [11] + [-22] * 3 + [0])

    def test_up_behind_it(self):
        # The mark is as long as from the down on, not from the at.
        self.assertEqual(ask(self.line + [at(105), up(112)])[2:], [11, 6])
        self.assertEqual(ask(self.line + [at(105), at(111), up(136)])[2:], [11, 11, 3])

    def test_up_at_the_tick_told_last(self):
        self.assertEqual(ask(self.line + [at(112), up(112)])[2:], [11, 6])

    def test_up_one_before_the_tick_told_last(self):
        self.assertEqual(ask(self.line + [at(112), up(111), up(112)])[2:], [11, -22, 6])

    def test_up_at_the_tick_of_the_down(self):
        self.assertEqual(ask(self.line + [at(100), up(100), up(110)])[2:], [11, -22, 4])

    def test_down_behind_it(self):
        self.assertEqual(ask(self.line + [at(112), down(112), down(113), down(111)])[2:], [11, -16, -16, -22])


class InAGap(unittest.TestCase):
    def setUp(self):
        self.line = [begin(10, 20, 3), down(100), up(112)]

    def test_a_gap_rules_no_unit_out_while_it_goes_on(self):
        for t in (112, 113, 125, 126, 140, 148, 175, 500, 1000112, 1000113, LATEST):
            with self.subTest(t=t):
                self.assertEqual(ask_last(self.line + [at(t)]), 6)

    def test_ticks_that_are_refused(self):
        for t in (0, 100, 111, TOO_LATE, GREATEST_NUMBER):
            with self.subTest(t=t):
                self.assertEqual(ask_last(self.line + [at(t)]), -22)
        self.assertEqual(ask(self.line + [at(120), at(119), at(120)])[3:], [6, -22, 6])

    def test_refused_changes_nothing(self):
        wrong = [at(111), at(TOO_LATE), at(GREATEST_NUMBER)]
        self.assertEqual(ask(self.line + wrong + [down(148)])[3:], [-22] * 3 + [3])

    def test_down_behind_it(self):
        # The gap is as long as from the up on, not from the at.
        self.assertEqual(ask(self.line + [at(120), down(148)])[3:], [6, 3])

    def test_down_at_the_tick_told_last(self):
        self.assertEqual(ask(self.line + [at(148), down(148)])[3:], [6, 3])

    def test_down_one_before_the_tick_told_last(self):
        self.assertEqual(ask(self.line + [at(148), down(147), down(148)])[3:], [6, -22, 3])

    def test_down_at_the_tick_of_the_up(self):
        self.assertEqual(ask(self.line + [at(112), down(112), down(122)])[3:], [6, -22, 4])

    def test_up_behind_it(self):
        self.assertEqual(ask(self.line + [at(148), up(148), up(149), up(147)])[3:], [6, -16, -16, -22])


class KeyThatStaysDown(unittest.TestCase):
    def test_three_units_and_slack_and_one_tick_longer(self):
        for lo, hi, e in ((10, 20, 3), (10, 20, 0), (10, 20, 9), (7, 7, 6), (1, 1, 0), (1, 4096, 0), (4096, 4096, 4095)):
            line = [begin(lo, hi, e), down(5)]
            many = hi - lo + 1
            held = [3 * lo + e, 3 * lo + e + 1, 3 * hi + e, 3 * hi + e + 1]
            counts = [many, many - 1, 1, 0]
            for length, count in zip(held, counts):
                with self.subTest(lo=lo, hi=hi, e=e, length=length):
                    self.assertEqual(ask_last(line + [at(5 + length)]), count)

    def test_each_unit_goes_at_its_own_tick(self):
        line = [begin(10, 14, 2), down(0)]
        told = ask(line + [at(t) for t in range(30, 50)])[2:]
        self.assertEqual(told, [5, 5, 5, 4, 4, 4, 3, 3, 3, 2, 2, 2, 1, 1, 1, 0, 0, 0, 0, 0])

    def test_which_units_go(self):
        told = ask_all([begin(10, 14, 2), down(0), at(36), units(), at(44), units(), at(45), units()])
        self.assertEqual(told[3::2], [[3, 12, 14], [1, 14, 14], [0, 0, 0]])

    def test_behind_lengths(self):
        # A mark of 30 leaves 9 to 11 and 27 to 33; the key held down then leaves the latter.
        line = hand(5, 40, 3, [30, 400])
        self.assertEqual(ask_all(line + [at(430 + 30), units(), at(430 + 37), units()])[-4:],
                         [[10], [10, 9, 33], [7], [7, 27, 33]])

    def test_none_comes_back_with_the_up(self):
        self.assertEqual(ask([begin(10, 14, 2), down(0), at(45), up(45), down(60), up(70)])[2:], [0, 0, 0, 0])
        # 36 ticks may be 3 of 12 alone; 10 and 11 were gone by then.
        self.assertEqual(ask([begin(10, 14, 2), down(0), at(36), up(36)])[2:], [3, 1])

    def test_a_key_held_to_the_latest_tick(self):
        self.assertEqual(ask([begin(1, 4096, 0), down(0), at(LATEST), up(LATEST), at(TOO_LATE)])[2:], [0, 0, -22])

    def test_the_next_mark_is_held_anew(self):
        line = [begin(10, 10, 0), down(0), at(30), up(30), down(40), at(70)]
        self.assertEqual(ask(line), [0, 1, 1, 1, 1, 1])
        self.assertEqual(ask_last(line + [at(71)]), 0)

    def test_how_long_the_last_mark_was_held_is_not_asked_of_a_gap(self):
        self.assertEqual(ask([begin(10, 10, 0)] + turns([30]) + [at(10000)]), [0, 1, 1, 1])


class WithAllLengths(unittest.TestCase):
    def setUp(self):
        line, self.t = full(5)
        self.line = [begin(4, 6, 1)] + line

    def test_it_is_taken(self):
        t = self.t
        told = ask(self.line + [at(t), at(t + 13), at(t + 14), at(t + 17), at(t + 19), at(t + 20), at(LATEST)])
        self.assertEqual(told[-8:], [3, 3, 3, 2, 1, 1, 0, 0])

    def test_refused(self):
        told = ask(self.line + [at(self.t - 1), at(0), at(TOO_LATE), at(self.t)])
        self.assertEqual(told[-4:], [-22, -22, -22, 3])

    def test_the_key_does_not_come_up(self):
        t = self.t
        told = ask(self.line + [at(t + 5), up(t + 4), up(t + 5), down(t + 5), at(t + 16)])
        self.assertEqual(told[-5:], [3, -22, -28, -16, 2])

    def test_one_length_less(self):
        line = self.line[:-1]
        up_at = self.t - 5
        self.assertEqual(ask(line + [at(up_at + 900)])[-1], 3)
        self.assertEqual(text_behind(line + [at(up_at + 900)]), "* ")


if __name__ == "__main__":
    unittest.main()
