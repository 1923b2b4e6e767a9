"""How many units may be, as down and up answer it."""

import unittest

from tests.helper import LATEST, TOO_LATE, ask, ask_last, begin, down, turns, up

UNITS_AND_SLACKS = ((1, 0), (2, 0), (2, 1), (10, 0), (10, 3), (10, 9), (333, 100), (4096, 0), (4096, 4095))


def edges(unit, slack, counts):
    """Lengths round the edges of each count, and whether the unit fits them."""
    lengths = {k * unit + side * slack + off for k in (1, 3, 7) for side in (-1, 1) for off in (-1, 0, 1)}
    for length in sorted(lengths):
        if length >= 1:
            near = any(k * unit - slack <= length <= k * unit + slack for k in counts if k != 7)
            yield length, int(near or (7 in counts and length >= 7 * unit - slack))


class ByOneLength(unittest.TestCase):
    def test_marks_at_the_edges(self):
        for unit, slack in UNITS_AND_SLACKS:
            for length, count in edges(unit, slack, (1, 3)):
                with self.subTest(unit=unit, slack=slack, length=length):
                    self.assertEqual(ask([begin(unit, unit, slack)] + turns([length])), [0, 1, count])

    def test_gaps_at_the_edges(self):
        for unit, slack in UNITS_AND_SLACKS:
            for length, count in edges(unit, slack, (1, 3, 7)):
                with self.subTest(unit=unit, slack=slack, length=length):
                    self.assertEqual(ask([begin(unit, unit, slack)] + turns([unit, length])), [0, 1, 1, count])

    def test_edges_told_by_hand(self):
        marks = {6: 0, 7: 1, 13: 1, 14: 0, 26: 0, 27: 1, 33: 1, 34: 0, 66: 0, 67: 0, 70: 0, 73: 0}
        for length, count in marks.items():
            with self.subTest(mark=length):
                self.assertEqual(ask_last([begin(10, 10, 3)] + turns([length])), count)
        gaps = {6: 0, 7: 1, 13: 1, 14: 0, 26: 0, 27: 1, 33: 1, 34: 0, 66: 0, 67: 1, 70: 1, 73: 1, 74: 1, 700: 1}
        for length, count in gaps.items():
            with self.subTest(gap=length):
                self.assertEqual(ask_last([begin(10, 10, 3)] + turns([10, length])), count)

    def test_of_a_range(self):
        # A mark of 30 is 1 of 27 to 33, and 3 of 9 to 11.
        self.assertEqual(ask_last([begin(5, 40, 3)] + turns([30])), 10)
        # A gap of 75 is 7 of 9 to 11; one of 78 is 3 of 27, too.
        self.assertEqual(ask_last([begin(5, 40, 3)] + turns([30, 75])), 3)
        self.assertEqual(ask_last([begin(5, 40, 3)] + turns([30, 78])), 4)

    def test_short_or_long(self):
        self.assertEqual(ask([begin(10, 30, 0)] + turns([30, 30, 30])), [0, 21, 2, 2, 2])


class NoUnit(unittest.TestCase):
    def test_none_is_left_and_none_comes_back(self):
        self.assertEqual(ask([begin(10, 12, 1)] + turns([20, 10, 10, 30, 10])), [0, 3, 0, 0, 0, 0, 0])

    def test_by_a_gap(self):
        self.assertEqual(ask([begin(10, 10, 1)] + turns([10, 20, 10])), [0, 1, 1, 0, 0])

    def test_refusals_are_told_still(self):
        line = [begin(10, 10, 1), down(0), up(20)]
        self.assertEqual(ask(line + [up(21), down(20), down(TOO_LATE), down(30), down(31), up(30)])[2:],
                         [0, -16, -22, -22, 0, -16, -22])


class LongLengths(unittest.TestCase):
    def test_marks(self):
        for length in (999999, 1000000, 1000001, 5000000, LATEST):
            with self.subTest(length=length):
                self.assertEqual(ask([begin(1, 4096, 0)] + turns([length])), [0, 4096, 0])
                self.assertEqual(ask([begin(4096, 4096, 4095)] + turns([length])), [0, 1, 0])

    def test_gaps(self):
        for length in (999999, 1000000, 1000001, 5000000, LATEST - 3000):
            with self.subTest(length=length):
                self.assertEqual(ask([begin(2000, 4096, 1999)] + turns([3000, length])), [0, 2097, 2097, 2097])

    def test_lengths_behind_a_long_gap(self):
        self.assertEqual(ask([begin(10, 20, 3)] + turns([12, 1000001, 36, 2000000, 12])), [0, 11, 6, 6, 3, 3, 3])


class WidestRange(unittest.TestCase):
    def test_all_lengths_and_the_call_behind(self):
        told = ask([begin(1, 4096, 0)] + turns([12] * 1024) + [up(12 * 1024 + 12)])
        # A mark of 12 leaves 4 and 12, and so does a gap of 12.
        self.assertEqual(told, [0, 4096] + [2] * 1024 + [-28])

    def test_greatest_unit(self):
        told = ask([begin(1, 4096, 0)] + turns([3 * 4096, 7 * 4096] * 512) + [up(LATEST)])
        self.assertEqual(told, [0, 4096] + [1] * 1024 + [-28])

    def test_most_units_left(self):
        told = ask([begin(2048, 4096, 2047)] + turns([4095, 28672] * 512) + [up(LATEST)])
        self.assertEqual(told, [0, 2049] + [2049] * 1024 + [-28])


if __name__ == "__main__":
    unittest.main()
