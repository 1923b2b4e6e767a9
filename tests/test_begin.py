"""Promise 1: begin."""

import unittest

from tests.helper import GREATEST_NUMBER, LATEST, ask, ask_last, begin, down, turns, up


class Taken(unittest.TestCase):
    def test_ordinary_ranges(self):
        for lo, hi, e in ((10, 20, 3), (60, 240, 20), (100, 100, 0), (1, 4096, 0)):
            with self.subTest(lo=lo, hi=hi, e=e):
                self.assertEqual(ask([begin(lo, hi, e), down(0)]), [0, hi - lo + 1])

    def test_at_the_edges(self):
        for lo, hi, e in ((1, 1, 0), (4096, 4096, 0), (4096, 4096, 4095), (2, 2, 1), (7, 4096, 6), (7, 7, 6)):
            with self.subTest(lo=lo, hi=hi, e=e):
                self.assertEqual(ask([begin(lo, hi, e), down(0)]), [0, hi - lo + 1])


class Refused(unittest.TestCase):
    def refuse(self, *ranges):
        for lo, hi, e in ranges:
            with self.subTest(lo=lo, hi=hi, e=e):
                self.assertEqual(ask([begin(lo, hi, e)]), [-22])

    def test_lo(self):
        self.refuse((0, 0, 0), (0, 5, 0), (0, 4096, 0), (4097, 4097, 0), (4097, 5000, 1), (4097, 4096, 0),
                    (GREATEST_NUMBER, GREATEST_NUMBER, 0))

    def test_hi(self):
        self.refuse((10, 9, 0), (10, 0, 0), (4096, 4095, 0), (10, 4097, 0), (4096, 4097, 0), (1, 4097, 0),
                    (1, GREATEST_NUMBER, 0))

    def test_slack(self):
        self.refuse((10, 20, 10), (10, 20, 11), (10, 20, 15), (1, 1, 1), (1, 4096, 1), (4096, 4096, 4096),
                    (10, 20, GREATEST_NUMBER))

    def test_several_at_once(self):
        self.refuse((0, 0, 5), (4097, 0, 4097), (GREATEST_NUMBER, GREATEST_NUMBER, GREATEST_NUMBER))

    def test_until_one_is_taken(self):
        self.assertEqual(ask([begin(0, 1, 0), begin(5, 4, 0), begin(5, 6, 1), down(0)]), [-22, -22, 0, 2])


class AskedAgain(unittest.TestCase):
    def test_taken_begins_all_anew(self):
        before = [begin(10, 10, 0)] + turns([10, 10, 11], first_down=500)
        self.assertEqual(ask_last(before), 0)
        self.assertEqual(ask(before + [begin(10, 20, 3), down(0), up(13)])[-3:], [0, 11, 7])

    def test_taken_is_never_pressed(self):
        before = [begin(10, 20, 3), down(0), up(10)]
        # A gap of 5 would rule out all of these units.
        self.assertEqual(ask(before + [begin(10, 20, 3), down(15)])[-2:], [0, 11])
        self.assertEqual(ask(before + [begin(10, 20, 3), up(10)])[-2:], [0, -16])

    def test_taken_while_the_key_is_down(self):
        before = [begin(10, 20, 3), down(100)]
        self.assertEqual(ask(before + [begin(5, 6, 0), up(105), down(0), up(5)])[-4:], [0, -16, 2, 1])

    def test_taken_with_all_lengths(self):
        before = [begin(1, 1, 0)] + turns([1] * 1024)
        self.assertEqual(ask(before + [up(1025), begin(1, 2, 0), down(0), up(1)])[-4:], [-28, 0, 2, 1])

    def test_taken_at_the_latest_tick(self):
        self.assertEqual(ask([begin(1, 2, 0), down(LATEST), begin(1, 2, 0), down(0)]), [0, 2, 0, 2])

    def test_refused_leaves_all_as_it_was(self):
        wrong = [begin(0, 5, 0), begin(10, 9, 0), begin(10, 4097, 0), begin(10, 20, 10)]
        line = [begin(10, 20, 3)] + turns([12, 13, 36, 40, 11])
        plain = ask(line)
        for place in range(1, len(line) + 1):
            with self.subTest(place=place):
                told = ask(line[:place] + wrong + line[place:])
                self.assertEqual(told[:place] + told[place + 4:], plain)
                self.assertEqual(told[place:place + 4], [-22] * 4)

    def test_refused_leaves_key_and_tick(self):
        self.assertEqual(ask([begin(10, 20, 3), down(50), begin(0, 0, 0), down(60), up(49), up(50), up(60)])[2:],
                         [-22, -16, -22, -22, 4])


if __name__ == "__main__":
    unittest.main()
