"""Promise 6: units."""

import unittest

from tests.helper import ask_all, at, begin, down, hand, read, turns, units, units_behind, up


class Units(unittest.TestCase):
    def test_before_anything_was_pressed(self):
        for lo, hi, e in ((10, 20, 3), (1, 4096, 0), (1, 1, 0), (4096, 4096, 4095), (7, 7, 6)):
            with self.subTest(lo=lo, hi=hi):
                self.assertEqual(ask_all([begin(lo, hi, e), units()]), [[0], [hi - lo + 1, lo, hi]])

    def test_never_pressed_and_late(self):
        self.assertEqual(units_behind([begin(10, 20, 3), at(100000)]), [11, 10, 20])

    def test_behind_lengths(self):
        line = [begin(10, 20, 3)] + turns([12, 36])
        self.assertEqual([units_behind(line[:n]) for n in range(1, 5)],
                         [[11, 10, 20], [11, 10, 20], [6, 10, 15], [3, 11, 13]])

    def test_at_the_edges_of_a_mark(self):
        self.assertEqual(units_behind(hand(1, 4096, 0, [12])), [2, 4, 12])
        self.assertEqual(units_behind(hand(1, 4096, 0, [13])), [1, 13, 13])
        self.assertEqual(units_behind(hand(3, 100, 2, [30])), [6, 10, 32])
        self.assertEqual(units_behind(hand(3, 100, 2, [31])), [7, 10, 33])
        self.assertEqual(units_behind(hand(3, 31, 2, [30])), [5, 10, 31])

    def test_at_the_edges_of_a_gap(self):
        # By 10 to 20 alone, with a mark of 15 and slack 9, no gap is left out at first.
        told = {13: [11, 10, 20], 19: [11, 10, 20], 20: [10, 11, 20], 21: [10, 10, 20], 22: [9, 10, 20], 36: [6, 10, 15],
                51: [7, 14, 20], 60: [4, 17, 20], 61: [4, 10, 20], 131: [11, 10, 20]}
        for gap, numbers in told.items():
            with self.subTest(gap=gap):
                self.assertEqual(units_behind(hand(10, 20, 9, [15, gap])), numbers)

    def test_some_between_that_may_not(self):
        self.assertEqual(units_behind(hand(5, 40, 3, [30])), [10, 9, 33])
        self.assertEqual(units_behind(hand(10, 30, 0, [30])), [2, 10, 30])
        self.assertEqual(units_behind(hand(10, 20, 9, [15, 22])), [9, 10, 20])

    def test_in_a_mark(self):
        line = [begin(10, 20, 3), down(0)]
        ticks = (5, 33, 34, 36, 37, 60, 61, 63, 64)
        told = ask_all(line + [asked for t in ticks for asked in (at(t), units())])
        self.assertEqual(told[3::2], [[11, 10, 20], [11, 10, 20], [10, 11, 20], [10, 11, 20], [9, 12, 20], [2, 19, 20],
                                      [1, 20, 20], [1, 20, 20], [0, 0, 0]])

    def test_in_a_mark_behind_lengths(self):
        line = hand(5, 40, 3, [30, 400])
        self.assertEqual(units_behind(line), [10, 9, 33])
        self.assertEqual(units_behind(line + [at(430 + 31)]), [9, 10, 33])
        self.assertEqual(units_behind(line + [at(430 + 36)]), [8, 11, 33])
        self.assertEqual(units_behind(line + [at(430 + 37)]), [7, 27, 33])
        self.assertEqual(units_behind(line + [at(430 + 102)]), [1, 33, 33])
        self.assertEqual(units_behind(line + [at(430 + 103)]), [0, 0, 0])

    def test_in_a_gap(self):
        line = hand(10, 20, 3, [12])
        for t in (12, 25, 26, 60, 1000012, 1000013):
            with self.subTest(t=t):
                self.assertEqual(units_behind(line + [at(t)]), [6, 10, 15])

    def test_none(self):
        self.assertEqual(units_behind(hand(10, 10, 3, [20])), [0, 0, 0])
        self.assertEqual(units_behind(hand(10, 10, 3, [10, 20])), [0, 0, 0])
        self.assertEqual(units_behind([begin(10, 10, 3), down(0), at(34)]), [0, 0, 0])

    def test_three_numbers_always(self):
        line = [begin(10, 10, 3), units(), down(0), units(), up(20), units(), read(), units()]
        self.assertEqual([len(told) for told in ask_all(line)], [1, 3, 1, 3, 1, 3, 1, 3])


if __name__ == "__main__":
    unittest.main()
